"""Faults of programs, and which programs are let by."""
from lookalike.asking import arg_reads, asked_knot, asked_lot, is_asked_for_clock, value_reads
from lookalike.clocks import moments_of
from lookalike.errors import Refused
from lookalike.knots import owners_of
from lookalike.labels import labelled
from lookalike.orders import covered, lot_within
from lookalike.parts import placed_statements
from lookalike.rebuilding import rebuilt_block
from lookalike.toldlots import ToldLots


def type_faults(program):
    """The ascending faults of a told program: owner, place, word and knot."""
    told = ToldLots(program)
    moments = moments_of(told, program)
    found = {}
    for owner, _, block in owners_of(program):
        for place, statement in placed_statements(block):
            for word, knot, lot in asked_of(told, owner, place, statement, moments[(owner, place)]):
                if not covered(told.order, lot, asked_lot(told, statement, knot)):
                    found[(owner, place, word, knot)] = True
    for name, _, _, _, result in program[3]:
        for knot, reads in arg_reads(told, name, [result]).items():
            if not covered(told.order, told.knots_lot(reads), told.lots[knot]):
                found[(name, (), "value", knot)] = True
    return tuple(sorted(list(found)))


def asked_of(told, owner, place, statement, moment):
    """Triples of a word, a knot, and the lot that the knot's one must cover, as asked at a statement."""
    choice, clock = moment
    asked = []
    for knot, reads in value_reads(told, owner, place, statement).items():
        asked.append(("value", knot, told.knots_lot(reads)))
    if statement[0] == "take":
        asked.append(("value", told.knot(owner, statement[1]), (statement[2],)))
    knot = asked_knot(told, owner, place, statement)
    if knot is not None:
        asked.append(("choice", knot, choice))
        if is_asked_for_clock(knot):
            asked.append(("clock", knot, clock))
    return asked


def is_let_by(program):
    """Whether the labelled program has no fault."""
    return len(type_faults(labelled(program))) == 0


def let_by(program):
    """The labelled program, if it has no fault."""
    told = labelled(program)
    faults = type_faults(told)
    if len(faults) > 0:
        raise Refused(len(faults))
    return told


def two_sided(program, level):
    """The told program with two levels: 0 for all that is within this level, 1 for all else."""
    order, boxes, rows, functions, threads = program

    def side_of(lot):
        return () if lot_within(order, lot, level) else (1,)

    def sided(places):
        return tuple([(place[0], side_of(place[1]), *place[2:]) for place in places])

    def level_of(other):
        return 0 if other in order[level] else 1

    def change(statement):
        if statement[0] == "out":
            return ("out", level_of(statement[1]), statement[2])
        if statement[0] == "take":
            return ("take", statement[1], level_of(statement[2]))
        return statement

    new_functions = []
    for name, params, places, block, result in functions:
        new_functions.append((name, sided(params), sided(places), rebuilt_block(block, change), result))
    new_threads = [(name, sided(places), rebuilt_block(block, change)) for name, places, block in threads]
    return (((0,), (0, 1)), sided(boxes), sided(rows), tuple(new_functions), tuple(new_threads))
