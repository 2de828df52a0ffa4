"""Measuring programs part by part.

A *measure* is an object that tells how much parts come to: `slots(many)` of
so many slots, `rests(many)` of a "skip", `together(parts)` of parts one behind
the other, `either(one, other)` of the sides of an "if", `rounds(ahead, inner)`
of a "while" with this ahead of each end of it, and this in each round beside,
and `repeated(many, part)` of a "times".

Functions are measured once each, and blocks from within outwards: so neither
many calls nor many rounds take long.
"""
from lookalike.parts import expressions_within, placed_blocks, statement_blocks, statement_expressions


class SumMeasure:
    """Measures parts by numbers: all of them count once, and what is repeated as often as it is."""

    def slots(self, many):
        return many

    def rests(self, many):
        return many

    def together(self, parts):
        return sum(parts)

    def either(self, one, other):
        return one + other

    def rounds(self, ahead, inner):
        return ahead + inner

    def repeated(self, many, part):
        return many * part


class Measured:
    """What a measure tells of the parts of a program whose functions are known so far."""

    def __init__(self, measure):
        self.measure = measure
        # What a call of each function comes to, beside its args.
        self.calls = {}

    def know(self, function):
        """Measure one function more; those that it calls are known."""
        name, params, places, block, result = function
        own = self.measure.slots(len(params) + 2 * len(places))
        self.calls[name] = self.measure.together([own, self.block(block), self.expressions([result])])

    def expressions(self, expressions):
        """What expressions come to, together."""
        parts = expressions_within(expressions)
        calls = [self.calls[part[1]] for part in parts if part[0] == "call"]
        return self.measure.together([self.measure.slots(len(parts) - len(calls)), *calls])

    def block(self, block):
        """What a block comes to."""
        found = {}
        for place, inner in reversed(placed_blocks(block)):
            found[place] = self.statements_at(place, inner, found)
        return found[()]

    def statements_at(self, place, block, found):
        """What the statements of a block at a place come to; of blocks within them it is told by their places."""
        parts = []
        for index, statement in enumerate(block):
            sides = [found[place + (index, side)] for side in range(len(statement_blocks(statement)))]
            parts.append(self.statement(statement, sides))
        return self.measure.together(parts)

    def statement(self, statement, sides):
        """What a statement comes to whose blocks come to this."""
        word = statement[0]
        measure = self.measure
        if word == "skip":
            return measure.rests(statement[1])
        if word == "take":
            return measure.slots(2)
        if word == "times":
            return measure.repeated(statement[1], sides[0])
        ahead = measure.together([self.expressions(statement_expressions(statement)), measure.slots(1)])
        if word == "if":
            return measure.together([ahead, measure.either(sides[0], sides[1]), measure.slots(1)])
        if word == "while":
            return measure.rounds(ahead, measure.together([sides[0], measure.slots(1)]))
        return ahead


def measured(measure, program):
    """What a measure tells of the parts of a program."""
    found = Measured(measure)
    for function in program[3]:
        found.know(function)
    return found
