"""Padding: rests at the ends of sides, such that both sides of a choice take the same time."""
from lookalike.measures import Measured, SumMeasure, measured
from lookalike.parts import placed_blocks, statement_blocks
from lookalike.rebuilding import with_blocks
from lookalike.sides import closed_ifs, secret_ifs
from lookalike.spans import SpanMeasure, span_time


def padded(program, some):
    """The program in which these timed "if"s, and all within them, are made even."""
    chosen = {pair: True for pair in closed_ifs(program, some)}
    order, boxes, rows, functions, threads = program
    found = Measured(SpanMeasure())
    new_functions = []
    for name, params, places, block, result in functions:
        function = (name, params, places, padded_block(found, chosen, name, block), result)
        found.know(function)
        new_functions.append(function)
    new_threads = [(name, places, padded_block(found, chosen, name, block)) for name, places, block in threads]
    return (order, boxes, rows, tuple(new_functions), tuple(new_threads))


def padded_program(program):
    """The program in which the choices that hang on secrets are made even."""
    return padded(program, secret_ifs(program))


def padded_block(found, chosen, owner, block):
    """The block of an owner with these "if"s made even; the functions that it calls are measured."""
    made = {}
    spans = {}
    for place, inner in reversed(placed_blocks(block)):
        statements = []
        for index, statement in enumerate(inner):
            spots = [(*place, index, side) for side in range(len(statement_blocks(statement)))]
            if (owner, (*place, index)) in chosen:
                even_out(made, spans, spots)
            statements.append(with_blocks(statement, [made[spot] for spot in spots]))
        made[place] = tuple(statements)
        spans[place] = found.statements_at(place, made[place], spans)
    return made[()]


def even_out(made, spans, spots):
    """Put rests at the end of one of two sides, if it takes less time than the other one."""
    times = [span_time(spans[spot]) for spot in spots]
    most = max(times)
    for spot, time in zip(spots, times):
        if time < most:
            made[spot] = (*made[spot], ("skip", most - time))
            spans[spot] = (most, most)


class RestMeasure(SumMeasure):
    """Measures parts by the slots of the "skip"s in them alone."""

    def slots(self, _):
        return 0


def rests_in(program):
    """For each thread the number of slots of the "skip"s in it, as often as functions and "times" put them in."""
    found = measured(RestMeasure(), program)
    return tuple([found.block(thread[2]) for thread in program[4]])
