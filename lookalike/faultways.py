"""The ways of faults: rows of flows that tell how they come about."""
from lookalike.asking import arg_reads, value_reads
from lookalike.errors import InvalidQuestion
from lookalike.faults import type_faults
from lookalike.kinds import are_numbers, is_tuple_of
from lookalike.knots import caps, flows, owners_of, sources
from lookalike.labels import is_knot, told_lots
from lookalike.orders import covered
from lookalike.parts import placed_statements
from lookalike.refusing import is_refusing_row, shortest_row
from lookalike.toldlots import ToldLots


def is_fault(program, value):
    """Whether any value is a fault of the program."""
    if not is_tuple_of(value, 4) or not are_numbers(value[1]) or not is_knot(value[3]):
        return False
    return value in type_faults(program)


def is_way(program, fault, value):
    """Whether any value is a way of the fault."""
    if not is_fault(program, fault):
        raise InvalidQuestion(1)
    if not is_refusing_row(program, value) or value[-1] != fault[3]:
        return False
    ahead = knots_ahead(program, fault)
    return len(value) == 1 if ahead is None else len(value) > 1 and value[-2] in ahead


def way_of(program, fault):
    """A way of the fault with as few knots as any.

    Only its first and last knots may have told lots, so none of these stands
    between them; the last one does not stand ahead of itself.
    """
    if not is_fault(program, fault):
        raise InvalidQuestion(1)
    knot = fault[3]
    ahead = knots_ahead(program, fault)
    if ahead is None:
        return (knot,)
    told = told_lots(program)
    leads = {}
    for one, other in flows(program):
        if other not in told:
            leads.setdefault(one, []).append(other)
    starts = [one for one in refused_sources(program, knot) if one != knot]
    row = shortest_row(leads, {}, starts, {one: True for one in ahead})
    return (*row, knot)


def refused_sources(program, knot):
    """The knots with a source whose level may not come to this knot, which has a cap."""
    lots = {capped: lot for capped, lot in caps(program)}
    is_refused = [not covered(program[0], (level,), lots[knot]) for level in range(len(program[0]))]
    return [source for source, level in sources(program) if is_refused[level]]


def knots_ahead(program, fault):
    """The knots of which one stands ahead of the fault's in its ways, None if none does."""
    owner, place, word, knot = fault
    if word == "choice":
        return [("pc", owner, place[:-1])]
    if word == "clock":
        return [("clock", owner, place)]
    told = ToldLots(program)
    if place == ():
        return arg_reads(told, owner, [told.functions[owner][4]])[knot]
    for name, _, block in owners_of(program):
        if name == owner:
            statement = dict(placed_statements(block))[place]
            return None if statement[0] == "take" else value_reads(told, owner, place, statement)[knot]
    return None
