"""Another way to tell the least labels of the knots of a told program, and whether they fit: without flows.

It goes along the text once, as chapter 7 of the document tells it.
"""
from lookalike.orders import covered


class Typed:
    """Labels by their knots, and the faults, of a program without open lots."""

    def __init__(self, program):
        self.order, boxes, rows, functions, threads = program
        self.functions = {function[0]: function for function in functions}
        self.shared = {part[0]: part[1] for part in boxes + rows}
        self.own = {function[0]: {place[0]: place[1] for place in function[1] + function[2]} for function in functions}
        self.own.update({thread[0]: {place[0]: place[1] for place in thread[1]} for thread in threads})
        self.labels = {}
        self.faults = []
        self.begins = {name: (set(), set()) for name in self.own}
        for name, _, block in threads:
            self.owner(name, block)
        for name, _, _, block, result in reversed(functions):
            end = self.owner(name, block)
            self.use(name, [result], self.begins[name][0], end | self.rises(name, [result]))
            self.labels[("after", name, ())] = end | self.rises(name, [result])
            self.labels[("rise", name, ())] = self.rise_of_function(name)
            self.labels[("result", name, ())] = self.lot(name, result)

    def owner(self, name, block):
        choice, clock = self.begins[name]
        self.labels[("pc", name, ())] = choice
        self.labels[("clock", name, ())] = clock
        end = self.block(name, (), block, choice, clock)
        self.labels[("after", name, ())] = end
        return end

    def named(self, owner, name):
        """The knot of a name, and its lot."""
        if name in self.own[owner]:
            return ("name", owner, name), set(self.own[owner][name])
        return ("name", "", name), set(self.shared[name])

    def lot(self, owner, expression):
        word = expression[0]
        if word == "word":
            return set()
        if word == "name":
            return self.named(owner, expression[1])[1]
        if word == "at":
            return self.named(owner, expression[1])[1] | self.lot(owner, expression[2])
        if word == "op":
            return self.lot(owner, expression[2]) | self.lot(owner, expression[3])
        return self.lot(expression[1], self.functions[expression[1]][4])

    def calls(self, expression):
        word = expression[0]
        if word == "call":
            return [expression] + [call for arg in expression[2] for call in self.calls(arg)]
        parts = {"at": expression[2:], "op": expression[2:]}.get(word, ())
        return [call for part in parts for call in self.calls(part)]

    def expressions(self, statement):
        word = statement[0]
        return {"set": statement[2:], "put": statement[2:], "out": statement[2:], "if": statement[1:2],
                "while": statement[1:2]}.get(word, ())

    def blocks(self, statement):
        return {"if": statement[2:], "while": statement[2:], "times": statement[2:]}.get(statement[0], ())

    def waits(self, block):
        for statement in block:
            called = [call[1] for part in self.expressions(statement) for call in self.calls(part)]
            if statement[0] == "while" or any(self.waits_in(name) for name in called):
                return True
            if any(self.waits(inner) for inner in self.blocks(statement)):
                return True
        return False

    def waits_in(self, name):
        _, _, _, block, result = self.functions[name]
        return self.waits(block) or any(self.waits_in(call[1]) for call in self.calls(result))

    def is_timed(self, statement):
        return not any(self.waits(block) for block in self.blocks(statement))

    def rises(self, owner, expressions):
        return set().union(*[self.rise_of_function(call[1]) for part in expressions for call in self.calls(part)])

    def rise_of_function(self, name):
        _, _, _, block, result = self.functions[name]
        return self.rise(name, block) | self.rises(name, [result])

    def rise(self, owner, block):
        found = set()
        for statement in block:
            found |= self.rises(owner, self.expressions(statement))
            for inner in self.blocks(statement):
                found |= self.rise(owner, inner)
            if statement[0] == "while" or statement[0] == "if" and not self.is_timed(statement):
                found |= self.lot(owner, statement[1])
        return found

    def use(self, owner, expressions, choice, clock):
        for call in [call for part in expressions for call in self.calls(part)]:
            name = call[1]
            self.begins[name] = (self.begins[name][0] | choice, self.begins[name][1] | clock)
            for place, arg in zip(self.functions[name][1], call[2]):
                self.ask(("name", name, place[0]), set(place[1]), self.lot(owner, arg))

    def ask(self, knot, lot, *others):
        for other in others:
            if not covered(self.order, tuple(sorted(other)), tuple(sorted(lot))):
                self.faults.append(knot)

    def block(self, owner, place, block, choice, clock):
        for index, statement in enumerate(block):
            spot = (*place, index)
            word = statement[0]
            expressions = self.expressions(statement)
            value = set().union(*[self.lot(owner, part) for part in expressions])
            clock = clock | self.rises(owner, expressions)
            if word in ("while", "times"):
                clock = clock | self.rise(owner, statement[2]) | value
            self.labels[("clock", owner, spot)] = clock
            self.use(owner, expressions, choice, clock)
            self.check(owner, spot, statement, value, choice, clock)
            for side, inner in enumerate(self.blocks(statement)):
                self.labels[("pc", owner, (*spot, side))] = choice | value
                self.block(owner, (*spot, side), inner, choice | value, clock)
            if word == "if":
                clock = clock | self.rise(owner, statement[2]) | self.rise(owner, statement[3])
                clock = clock if self.is_timed(statement) else clock | value
                self.labels[("after", owner, spot)] = clock
        return clock

    def check(self, owner, spot, statement, value, choice, clock):
        word = statement[0]
        if word in ("out", "take"):
            level = {statement[1] if word == "out" else statement[2]}
            self.labels[(word, owner, spot)] = value | choice | clock
            self.ask((word, owner, spot), level, value, choice, clock)
        if word == "take":
            self.ask(*self.named(owner, statement[1]), {statement[2]})
        if word in ("set", "put"):
            knot, lot = self.named(owner, statement[1])
            self.ask(knot, lot, value, choice, *([] if knot[1] else [clock]))
