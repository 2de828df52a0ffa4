"""Finding the flows between the knots of a program."""
from lookalike.parts import calls_within, expression_parts, statement_blocks, statement_expressions
from lookalike.timing import is_timed, waiting_functions


def name_knot(owner, places, name):
    """The knot of a name in the text of an owner with places of these names."""
    return ("name", owner if name in places else "", name)


def reads_of(owner, places, expressions):
    """The knots of the names and called results in expressions of an owner, those within args left out."""
    knots = []
    waiting = list(expressions)
    while waiting:
        expression = waiting.pop()
        word = expression[0]
        if word == "call":
            knots.append(("result", expression[1], ()))
        else:
            if word in ("name", "at"):
                knots.append(name_knot(owner, places, expression[1]))
            waiting.extend(expression_parts(expression))
    return knots


class Weaver:
    """The flows of a program, as far as they are found."""

    def __init__(self, program):
        self.functions = {function[0]: function for function in program[3]}
        self.waiting = waiting_functions(program)
        self.found = {}
        # The function or thread whose text is gone through, and the names of its places.
        self.owner = ""
        self.places = {}

    def flow(self, knots, target):
        """Let these knots flow to one; none flows to itself."""
        for knot in knots:
            if knot != target:
                self.found[(knot, target)] = True

    def knot_of(self, name):
        """The knot of a name in the text of the owner."""
        return name_knot(self.owner, self.places, name)

    def reads(self, expressions):
        """The reads of expressions in the text of the owner."""
        return reads_of(self.owner, self.places, expressions)

    def clock_behind(self, place, index, statement):
        """The clock behind the statement with this index in the block at the place."""
        word = "after" if statement[0] == "if" else "clock"
        return (word, self.owner, (*place, index))

    def clock_at_end(self, place, block, begin):
        """The clock behind a block that begins with this one."""
        if len(block) == 0:
            return begin
        return self.clock_behind(place, len(block) - 1, block[-1])


def weave_owner(weaver, block):
    """The flows of the block of the owner."""
    begin = ("clock", weaver.owner, ())
    waiting = [((), block, begin)]
    while waiting:
        place, inner, clock = waiting.pop()
        waiting.extend(weave_block(weaver, place, inner, clock))
    weaver.flow([weaver.clock_at_end((), block, begin)], ("after", weaver.owner, ()))


def weave_block(weaver, place, block, begin):
    """The flows of the statements of a block but for those within them; the blocks of these are told."""
    inner = []
    ahead = begin
    for index, statement in enumerate(block):
        spot = (*place, index)
        clock = ("clock", weaver.owner, spot)
        weaver.flow([ahead], clock)
        weave_calls(weaver, statement_expressions(statement), clock, ("pc", weaver.owner, place))
        weave_statement(weaver, spot, statement)
        for side, under in enumerate(statement_blocks(statement)):
            inner.append(((*spot, side), under, clock))
        ahead = weaver.clock_behind(place, index, statement)
    return inner


def weave_calls(weaver, expressions, clock, choice):
    """The flows of the calls in expressions, from and to this clock, and from this pc."""
    for _, name, args in calls_within(expressions):
        weaver.flow([("rise", name, ())], clock)
        weaver.flow([clock], ("clock", name, ()))
        weaver.flow([choice], ("pc", name, ()))
        for place, arg in zip(weaver.functions[name][1], args):
            weaver.flow(weaver.reads([arg]), ("name", name, place[0]))
        if weaver.owner in weaver.functions:
            weaver.flow([("rise", name, ())], ("rise", weaver.owner, ()))


def weave_statement(weaver, spot, statement):
    """The flows of a statement at a place, but for its calls and for what stands within it."""
    word = statement[0]
    clock = ("clock", weaver.owner, spot)
    choice = ("pc", weaver.owner, spot[:-1])
    reads = weaver.reads(statement_expressions(statement))
    if word == "set" and statement[1] in weaver.places:
        weaver.flow([*reads, choice], weaver.knot_of(statement[1]))
    elif word in ("set", "put"):
        weaver.flow([*reads, clock, choice], weaver.knot_of(statement[1]))
    elif word == "out":
        weaver.flow([*reads, clock, choice], ("out", weaver.owner, spot))
    elif word == "take":
        weaver.flow([clock, choice], ("take", weaver.owner, spot))
    elif word == "if":
        weave_if(weaver, spot, statement, reads)
    elif word in ("while", "times"):
        weave_rounds(weaver, spot, statement, reads)


def weave_if(weaver, spot, statement, reads):
    """The flows of an "if" with these reads."""
    clock = ("clock", weaver.owner, spot)
    choice = ("pc", weaver.owner, spot[:-1])
    after = ("after", weaver.owner, spot)
    for side, block in enumerate(statement_blocks(statement)):
        inner = (*spot, side)
        weaver.flow([*reads, choice], ("pc", weaver.owner, inner))
        weaver.flow([weaver.clock_at_end(inner, block, clock)], after)
    if not is_timed(statement, weaver.waiting):
        weaver.flow(reads, after)
        weave_rise(weaver, reads)


def weave_rounds(weaver, spot, statement, reads):
    """The flows of a "while" with these reads, or of a "times", which has none."""
    clock = ("clock", weaver.owner, spot)
    choice = ("pc", weaver.owner, spot[:-1])
    inner = (*spot, 0)
    weaver.flow([*reads, choice], ("pc", weaver.owner, inner))
    weaver.flow([*reads, weaver.clock_at_end(inner, statement[2], clock)], clock)
    weave_rise(weaver, reads)


def weave_rise(weaver, reads):
    """Let reads flow to what the owner, if it is a function, adds to clocks."""
    if weaver.owner in weaver.functions:
        weaver.flow(reads, ("rise", weaver.owner, ()))


def weave_result(weaver, function):
    """The flows of the result of a function, which is the owner."""
    name, result = function[0], function[4]
    weave_calls(weaver, [result], ("after", name, ()), ("pc", name, ()))
    weaver.flow(weaver.reads([result]), ("result", name, ()))
