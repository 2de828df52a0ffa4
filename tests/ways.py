"""Another way to tell the slots of ways through programs: all of them are followed at once, slot by slot."""


class Ways:
    """The ways through blocks of a program, as far as they take no more than so many slots."""

    def __init__(self, program, most):
        self.functions = {function[0]: function for function in program[3]}
        self.most = most
        # For each place the slots at which ways come to the statement there.
        self.begins = {}

    def behind(self, slots, many):
        return {slot + many for slot in slots if slot + many <= self.most}

    def expression(self, expression, slots):
        word = expression[0]
        if word == "call":
            _, params, places, block, result = self.functions[expression[1]]
            for arg in expression[2]:
                slots = self.expression(arg, slots)
            slots = self.behind(slots, len(params) + 2 * len(places))
            return self.expression(result, self.block(block, slots, None))
        for part in {"at": expression[2:], "op": expression[2:]}.get(word, ()):
            slots = self.expression(part, slots)
        return self.behind(slots, 1)

    def block(self, block, slots, place):
        """The slots behind a block that begins in these; where it stands, if that is to be kept in mind."""
        for index, statement in enumerate(block):
            spot = None if place is None else (*place, index)
            if spot is not None:
                self.begins.setdefault(spot, set()).update(slots)
            slots = self.statement(statement, slots, spot)
        return slots

    def statement(self, statement, slots, spot):
        word = statement[0]
        sides = [None if spot is None else (*spot, side) for side in (0, 1)]
        if word == "skip":
            return self.behind(slots, statement[1])
        if word == "take":
            return self.behind(slots, 2)
        if word == "times":
            for _ in range(statement[1]):
                slots = self.block(statement[2], slots, sides[0])
            return slots
        if word == "while":
            return self.rounds(statement, slots, sides[0])
        if word == "if":
            slots = self.behind(self.expression(statement[1], slots), 1)
            one, other = [self.block(statement[2 + side], slots, sides[side]) for side in (0, 1)]
            return self.behind(one | other, 1)
        for part in {"set": statement[2:], "put": statement[2:], "out": statement[2:]}[word]:
            slots = self.expression(part, slots)
        return self.behind(slots, 1)

    def rounds(self, statement, slots, side):
        behind = set()
        while slots:
            tested = self.behind(self.expression(statement[1], slots), 1)
            slots = self.behind(self.block(statement[2], tested - behind, side), 1)
            behind |= tested
        return behind


def all_blocks(program):
    """All blocks of a program, each with the name of its owner and its place."""
    for owner in program[3] + program[4]:
        block = owner[3] if len(owner) == 5 else owner[2]
        yield from blocks_at(owner[0], (), block)


def blocks_at(name, place, block):
    yield name, place, block
    for index, statement in enumerate(block):
        inner = {"if": statement[2:], "while": statement[2:], "times": statement[2:]}.get(statement[0], ())
        for side, part in enumerate(inner):
            yield from blocks_at(name, (*place, index, side), part)


def all_expressions(program):
    """All expressions of a program."""
    found = [function[4] for function in program[3]]
    for _, _, block in all_blocks(program):
        for statement in block:
            found += {"set": statement[2:], "put": statement[2:], "out": statement[2:], "if": statement[1:2],
                      "while": statement[1:2]}.get(statement[0], ())
    for expression in found:
        parts = {"at": expression[2:], "op": expression[2:], "call": expression[2:]}.get(expression[0], ())
        found += parts[0] if expression[0] == "call" else parts
    return found


def statement_at(block, place):
    """The statement at a place in the block of an owner."""
    statement = block[place[0]]
    if len(place) == 1:
        return statement
    inner = {"if": statement[2:], "while": statement[2:], "times": statement[2:]}[statement[0]]
    return statement_at(inner[place[1]], place[2:])
