"""Rows of knots for which a program is refused."""
from lookalike.knots import caps, flows, sources
from lookalike.labels import is_knot, told_lots
from lookalike.orders import covered


def is_refusing_row(program, value):
    """Whether any value is a refusing row of the program."""
    if not isinstance(value, tuple) or len(value) == 0 or not all(is_knot(knot) for knot in value):
        return False
    if len(set(value)) < len(value):
        return False
    pairs = {pair: True for pair in flows(program)}
    if any((value[k], value[k + 1]) not in pairs for k in range(len(value) - 1)):
        return False
    told = told_lots(program)
    if any(knot in told for knot in value[1:-1]):
        return False
    levels = [level for knot, level in sources(program) if knot == value[0]]
    lots = [lot for knot, lot in caps(program) if knot == value[-1]]
    return any([is_refused(program, level, lots) for level in levels])


def is_refused(program, level, lots):
    """Whether some of these lots does not cover that of the level alone."""
    return any(not covered(program[0], (level,), lot) for lot in lots)


def refusing_row(program):
    """None, or a refusing row with as few knots as any."""
    leads = {}
    for knot, target in flows(program):
        leads.setdefault(knot, []).append(target)
    told = told_lots(program)
    known = sources(program)
    limits = caps(program)
    best = None
    for level in range(len(program[0])):
        starts = [knot for knot, source in known if source == level]
        ends = {knot: True for knot, lot in limits if not covered(program[0], (level,), lot)}
        row = shortest_row(leads, told, starts, ends)
        if row is not None and (best is None or len(row) < len(best)):
            best = row
    return best


def shortest_row(leads, told, starts, ends):
    """None, or a shortest row from one of these knots to one of those, with told lots at its ends alone."""
    ahead = {knot: None for knot in starts}
    wave = list(starts)
    while wave:
        for knot in wave:
            if knot in ends:
                return row_to(ahead, knot)
        further = []
        for knot in wave:
            if knot in told and ahead[knot] is not None:
                continue
            for target in leads.get(knot, []):
                if target not in ahead:
                    ahead[target] = knot
                    further.append(target)
        wave = further
    return None


def row_to(ahead, knot):
    """The row that leads to this knot, of each knot but a first one being told which stands ahead of it."""
    row = [knot]
    while ahead[row[-1]] is not None:
        row.append(ahead[row[-1]])
    return tuple(reversed(row))
