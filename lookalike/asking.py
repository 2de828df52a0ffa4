"""What the statements of a told program ask of lots."""
from lookalike.parts import calls_within, statement_expressions


def asked_knot(told, owner, place, statement):
    """The knot of what a statement sets, shows or takes from, None if it does none of this."""
    word = statement[0]
    if word in ("set", "put"):
        return told.knot(owner, statement[1])
    return (word, owner, place) if word in ("out", "take") else None


def asked_lot(told, statement, knot):
    """The lot of a knot that is asked for at a statement."""
    if knot[0] == "name":
        return told.lots[knot]
    return (statement[1],) if knot[0] == "out" else (statement[2],)


def is_asked_for_clock(knot):
    """Whether the knot of what a statement sets, shows or takes from is asked for the clock: locals are not."""
    return knot[0] != "name" or knot[1] == ""


def arg_reads(told, owner, expressions):
    """For the knot of each param that calls in expressions set the reads of the args."""
    found = {}
    for _, name, args in calls_within(expressions):
        for param, arg in zip(told.functions[name][1], args):
            knot = ("name", name, param[0])
            found[knot] = found.get(knot, []) + told.reads(owner, [arg])
    return found


def value_reads(told, owner, place, statement):
    """For each knot that is asked for a value of expressions at a statement the reads of these."""
    expressions = statement_expressions(statement)
    found = arg_reads(told, owner, expressions)
    if statement[0] in ("set", "put", "out"):
        found[asked_knot(told, owner, place, statement)] = told.reads(owner, expressions)
    return found
