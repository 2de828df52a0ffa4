"""Labels of knots, and labelled programs."""
from lookalike.kinds import are_numbers, is_tuple_of
from lookalike.knots import caps, flows, named_lots, sources
from lookalike.orders import covered, is_lot, joined_lots


def is_knot(value):
    """Whether any value is like a knot."""
    if not is_tuple_of(value, 3) or not isinstance(value[0], str) or not isinstance(value[1], str):
        return False
    return isinstance(value[2], str) if value[0] == "name" else are_numbers(value[2])


def told_lots(program):
    """The told lots by their knots."""
    return {knot: lot for knot, lot in named_lots(program) if lot is not None}


def labelled_knots(program):
    """The ascending list of all knots that have labels."""
    found = {knot: True for knot, _ in named_lots(program)}
    for knot, target in flows(program):
        found[knot] = True
        found[target] = True
    for knot, _ in sources(program) + caps(program):
        found[knot] = True
    return sorted(list(found))


def comers(program):
    """For each knot with a label the list of the knots that flow to it."""
    found = {knot: [] for knot in labelled_knots(program)}
    for knot, target in flows(program):
        found[target].append(knot)
    return found


def source_lots(program):
    """For each knot that has sources the lot of their levels."""
    found = {}
    for knot, level in sources(program):
        found[knot] = joined_lots(found.get(knot, ()), (level,))
    return found


def least_labels(program):
    """The labels that stand and of which each lot is part of that in all that stand."""
    told = told_lots(program)
    leads = {}
    for knot, target in flows(program):
        if target not in told:
            leads.setdefault(knot, []).append(target)
    lots = source_lots(program)
    for knot, lot in told.items():
        lots[knot] = lot
    waiting = sorted(list(lots))
    while waiting:
        knot = waiting.pop()
        for target in leads.get(knot, []):
            had = lots.get(target, ())
            lots[target] = joined_lots(had, lots[knot])
            if lots[target] != had:
                waiting.append(target)
    return tuple([(knot, lots.get(knot, ())) for knot in labelled_knots(program)])


def are_labels(program, value):
    """Whether any value has one lot for each knot, ascending."""
    if not isinstance(value, tuple) or not all(is_tuple_of(pair, 2) for pair in value):
        return False
    if not all(is_knot(knot) and is_lot(program[0], lot) for knot, lot in value):
        return False
    return [knot for knot, _ in value] == labelled_knots(program)


def coming_lots(program, value):
    """For each knot the joined lot of its sources and of the labels of what flows to it."""
    lots = {knot: lot for knot, lot in value}
    first = source_lots(program)
    found = {}
    for knot, knots in comers(program).items():
        lot = first.get(knot, ())
        for other in knots:
            lot = joined_lots(lot, lots[other])
        found[knot] = lot
    return found


def are_standing(program, value):
    """Whether any value is labels that stand."""
    if not are_labels(program, value):
        return False
    told = told_lots(program)
    coming = coming_lots(program, value)
    for knot, lot in value:
        if knot in told:
            if lot != told[knot]:
                return False
        elif any(level not in lot for level in coming[knot]):
            return False
    return True


def are_fitting(program, value):
    """Whether any value is labels that fit."""
    if not are_standing(program, value):
        return False
    coming = coming_lots(program, value)
    return all(covered(program[0], coming[knot], lot) for knot, lot in caps(program))


def labelled(program):
    """The program with the least lots in the place of open ones."""
    lots = {knot: lot for knot, lot in least_labels(program)}
    order, boxes, rows, functions, threads = program
    new_functions = []
    for name, params, places, block, result in functions:
        new_functions.append((name, told_places(lots, name, params), told_places(lots, name, places), block, result))
    new_threads = [(name, told_places(lots, name, places), block) for name, places, block in threads]
    return (order, told_places(lots, "", boxes), told_places(lots, "", rows), tuple(new_functions), tuple(new_threads))


def told_places(lots, owner, places):
    """These places, boxes or rows, each with the lot that its knot has here."""
    return tuple([(place[0], lots[("name", owner, place[0])], *place[2:]) for place in places])


def program_ends(program):
    """For each thread the least lot of the moment behind its block."""
    lots = {knot: lot for knot, lot in least_labels(program)}
    return tuple([lots[("after", thread[0], ())] for thread in program[4]])
