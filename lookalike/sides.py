"""Choices whose sides take some time: timed ones, even ones, and those that hang on secrets."""
from lookalike.errors import InvalidQuestion
from lookalike.kinds import are_numbers, is_ascending, is_tuple_of
from lookalike.knots import owners_of
from lookalike.labels import least_labels
from lookalike.orders import covered, joined_lots
from lookalike.parts import calls_within, placed_statements, statement_blocks
from lookalike.spans import SpanMeasure, span_time
from lookalike.measures import measured
from lookalike.timing import calls_of, is_timed, waiting_functions
from lookalike.weaving import reads_of


def all_timed(program):
    """The timed "if"s by their pairs of name and place."""
    waiting = waiting_functions(program)
    found = {}
    for owner, _, block in owners_of(program):
        for place, statement in placed_statements(block):
            if statement[0] == "if" and is_timed(statement, waiting):
                found[(owner, place)] = statement
    return found


def timed_ifs(program):
    """The ascending pairs of name and place of the timed "if"s."""
    return tuple(sorted(list(all_timed(program))))


def even_ifs(program):
    """The ascending pairs of those timed "if"s for whose sides the same time is told."""
    measure = measured(SpanMeasure(), program)
    found = []
    for pair, statement in all_timed(program).items():
        times = [span_time(measure.block(side)) for side in statement_blocks(statement)]
        if times[0] is not None and times[0] == times[1]:
            found.append(pair)
    return tuple(sorted(found))


def are_timed_ifs(timed, value):
    """Whether any value is an ascending tuple of some of these "if"s."""
    if not isinstance(value, tuple):
        return False
    for pair in value:
        if not is_tuple_of(pair, 2) or not isinstance(pair[0], str) or not are_numbers(pair[1]):
            return False
    return all(pair in timed for pair in value) and is_ascending(value)


def closed_ifs(program, some):
    """The ascending pairs of these timed "if"s, and of all that stand in their sides, or in what is called there."""
    timed = all_timed(program)
    if not are_timed_ifs(timed, some):
        raise InvalidQuestion(1)
    called = {}
    for pair in some:
        for block in statement_blocks(timed[pair]):
            called.update({call[1]: True for call in calls_of(block)})
    # Who calls stands behind the functions that it calls.
    for name, _, _, block, result in reversed(program[3]):
        if name in called:
            called.update({call[1]: True for call in calls_of(block) + calls_within([result])})
    chosen = {pair: True for pair in some}
    return tuple([pair for pair in sorted(list(timed)) if pair[0] in called or is_within_some(pair, chosen)])


def is_within_some(pair, chosen):
    """Whether an "if" is one of these, or stands in a side of one."""
    name, place = pair
    return any((name, place[:end]) in chosen for end in range(1, len(place) + 1, 2))


def secret_ifs(program):
    """The closed ascending pairs of those timed "if"s whose conditions hang on what their moments do not tell."""
    lots = {knot: lot for knot, lot in least_labels(program)}
    places = {owner: {place[0]: True for place in own} for owner, own, _ in owners_of(program)}
    threads = {thread[0]: True for thread in program[4]}
    found = []
    for pair, statement in all_timed(program).items():
        name, place = pair
        reads = lots_joined(lots, reads_of(name, places[name], [statement[1]]))
        known = ()
        if name in threads:
            known = lots_joined(lots, [("clock", name, place), ("pc", name, place[:-1])])
        if not covered(program[0], reads, known):
            found.append(pair)
    return closed_ifs(program, tuple(sorted(found)))


def lots_joined(lots, knots):
    """The joined lots of knots: those without labels have none."""
    lot = ()
    for knot in knots:
        lot = joined_lots(lot, lots.get(knot, ()))
    return lot
