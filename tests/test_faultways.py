"""Promise [28]."""
import unittest

from lookalike.errors import InvalidQuestion
from lookalike.faults import type_faults
from lookalike.faultways import is_way, way_of
from lookalike.knots import caps, flows, sources
from lookalike.labels import labelled
from lookalike.orders import covered
from lookalike.refusing import is_refusing_row, refusing_row
from randomprograms import made_programs
from samples import ORDER
from test_clocks import EXAMPLE
from test_faults import EXPRESSIONS, program_with
from typed import Typed
from ways import statement_at
from wrongvalues import NO_TUPLES, of_other_kinds, otherwise, same

A, FOUR = ("name", "a"), ("word", 4, 3)
NAME_A = ("name", "t", "a")
FAULT = ("t", (2,), "clock", ("take", "t", (2,)))
WAY = (NAME_A, ("clock", "t", (1,)), ("clock", "t", (2,)), ("take", "t", (2,)))


class Plain:
    """Another way to tell what ways there are."""

    def __init__(self, program):
        self.program = program
        self.order = program[0]
        self.typed = Typed(program)
        self.comers = {}
        for knot, target in flows(program):
            self.comers.setdefault(target, []).append(knot)
        self.sources = sources(program)
        self.caps = dict(caps(program))
        self.told = {knot for knot in self.caps if knot[0] == "name"}

    def reads(self, owner, expression):
        word = expression[0]
        if word == "call":
            return [("result", expression[1], ())]
        own = [self.typed.named(owner, expression[1])[0]] if word in ("name", "at") else []
        parts = {"at": expression[2:], "op": expression[2:]}.get(word, ())
        return own + [knot for part in parts for knot in self.reads(owner, part)]

    def ahead(self, fault):
        """The knots that may stand ahead of the last one, None if none does."""
        owner, place, word, knot = fault
        if word != "value":
            return [("pc", owner, place[:-1]) if word == "choice" else ("clock", owner, place)]
        if place == ():
            expressions = [self.typed.functions[owner][4]]
        else:
            blocks = {part[0]: part[3] if len(part) == 5 else part[2] for part in self.program[3] + self.program[4]}
            statement = statement_at(blocks[owner], place)
            if statement[0] == "take":
                return None
            expressions = statement[EXPRESSIONS.get(statement[0], slice(0, 0))]
        found = []
        for expression in expressions:
            if not (place and knot[0] == "name" and knot[1] not in ("", owner)):
                found += self.reads(owner, expression) if place else []
            for call in self.typed.calls(expression):
                for param, arg in zip(self.typed.functions[call[1]][1], call[2]):
                    if knot == ("name", call[1], param[0]):
                        found += self.reads(owner, arg)
        return found

    def ways(self, fault, many):
        """All ways of a fault with so many knots."""
        ahead = self.ahead(fault)
        rows = [(fault[3],)]
        for index in range(many - 1):
            longer = []
            for row in rows:
                if len(row) == 1 or row[0] not in self.told:
                    longer += [(knot, *row) for knot in self.comers.get(row[0], []) if knot not in row]
            rows = [row for row in longer if index > 0 or ahead is not None and row[0] in ahead]
        rows = rows if many > 1 or ahead is None else []
        return [row for row in rows if any(knot == row[0] and not covered(self.order, (level,), self.caps[fault[3]])
                                           for knot, level in self.sources)]


class WayTest(unittest.TestCase):
    def test_example(self):
        self.assertEqual(way_of(EXAMPLE, type_faults(EXAMPLE)[0]), WAY)
        self.assertEqual(way_of(program=EXAMPLE, fault=FAULT), WAY)
        self.assertIs(is_way(program=EXAMPLE, fault=FAULT, value=WAY), True)

    def test_each_word(self):
        program = program_with(("set", "b", A), ("if", A, (("set", "b", FOUR),), ()), ("take", "b", 1),
                               ("while", A, ()), ("out", 0, FOUR))
        b, out = ("name", "t", "b"), ("out", "t", (4,))
        ways = {("t", (0,), "value", b): (NAME_A, b), ("t", (1, 0, 0), "choice", b): (NAME_A, ("pc", "t", (1, 0)), b),
                ("t", (2,), "value", b): (b,),
                ("t", (4,), "clock", out): (NAME_A, ("clock", "t", (3,)), ("clock", "t", (4,)), out)}
        self.assertEqual(type_faults(program), tuple(sorted(ways)))
        for fault, way in ways.items():
            self.assertEqual(way_of(program, fault), way)
            for other, theirs in ways.items():
                self.assertIs(is_way(program, fault, theirs), fault == other)

    def test_args_and_results(self):
        low = ("f", (("x", (0,), 4),), (), (), ("name", "x"))
        high = ("g", (("z", (1,), 4),), (), (), ("name", "z"))
        call = ("call", "f", (("call", "g", (A,)),))
        program = program_with(("set", "a", call), ("set", "b", ("call", "g", (("name", "b"),))), functions=(low, high))
        z, result, x, b = ("name", "g", "z"), ("result", "g", ()), ("name", "f", "x"), ("name", "t", "b")
        one, other = ("t", (0,), "value", x), ("t", (1,), "value", b)
        self.assertEqual(type_faults(program), (one, other))
        self.assertEqual((way_of(program, one), way_of(program, other)), ((z, result, x), (z, result, b)))
        # What stands in args leads to the params alone.
        self.assertIs(is_way(program, one, (NAME_A, x)), False)
        result_call = ("h", (("z", (1,), 4),), (), (), ("call", "f", (("name", "z"),)))
        program = program_with(functions=(low, result_call))
        self.assertEqual(type_faults(program), (("h", (), "value", x),))
        self.assertEqual(way_of(program, ("h", (), "value", x)), (("name", "h", "z"), x))

    def test_longer_ways(self):
        program = program_with(("while", A, (("skip", 1),)), ("if", FOUR, (), ()), ("skip", 1), ("out", 0, FOUR))
        fault = ("t", (3,), "clock", ("out", "t", (3,)))
        clocks = [("clock", "t", (0,)), ("after", "t", (1,)), ("clock", "t", (2,)), ("clock", "t", (3,))]
        way = (NAME_A, clocks[0], ("clock", "t", (1,)), *clocks[1:], fault[3])
        self.assertEqual(way_of(program, fault), way)
        around = (NAME_A, ("pc", "t", (0, 0)))
        self.assertIs(is_way(program, fault, (*around, *way[1:])), False)
        self.assertIs(is_way(program, fault, way[1:]), False)
        self.assertIs(is_way(program, fault, (*way, way[-1])), False)

    def test_the_last_knot_does_not_stand_ahead(self):
        # What is taken into b is no level of its lot, but a source of its knot: this leads to other knots, not to b itself.
        program = program_with(("take", "b", 1), ("while", ("op", "add", A, ("name", "b")), (("set", "b", FOUR),)))
        b = ("name", "t", "b")
        choice = ("t", (1, 0, 0), "choice", b)
        self.assertEqual(type_faults(program), (("t", (0,), "value", b), choice))
        self.assertEqual(way_of(program, choice), (NAME_A, ("pc", "t", (1, 0)), b))
        self.assertIs(is_way(program, choice, (b, ("pc", "t", (1, 0)), b)), False)
        program = program_with(("take", "b", 1), ("set", "b", ("op", "add", ("name", "b"), A)))
        self.assertEqual(way_of(program, ("t", (1,), "value", b)), (NAME_A, b))

    def test_sources_that_are_taken(self):
        # The lot of b is told, but a level that it does not have comes from it.
        program = program_with(("take", "b", 1), ("if", ("op", "add", A, ("name", "b")), (("out", 0, FOUR),), ()))
        fault = ("t", (1, 0, 0), "choice", ("out", "t", (1, 0, 0)))
        pc = ("pc", "t", (1, 0))
        for name in ("a", "b"):
            self.assertIs(is_way(program, fault, (("name", "t", name), pc, fault[3])), True)
        self.assertEqual(len(way_of(program, fault)), 3)

    def test_each_fault_has_one_and_no_shorter_one(self):
        some = [0] * 12
        for _, program in made_programs(200, told=True, levels=3):
            plain = Plain(program)
            for fault in type_faults(program):
                way = way_of(program, fault)
                self.assertIs(is_way(program, fault, way), True)
                self.assertTrue(is_refusing_row(program, way))
                if len(way) < 7:
                    self.assertIn(way, plain.ways(fault, len(way)))
                    for many in range(1, len(way)):
                        self.assertEqual(plain.ways(fault, many), [])
                some[min(len(way), 11)] += 1
        self.assertGreater(min(some[1:6]), 10)

    def test_all_ways(self):
        some = 0
        for maker, program in made_programs(120, told=True, levels=3):
            plain = Plain(program)
            faults = type_faults(program)
            for fault in faults[:4]:
                rows = {row for other in faults[:6] for many in range(1, 5) for row in plain.ways(other, many)}
                ways = {row for many in range(1, 5) for row in plain.ways(fault, many)}
                for row in maker.random.sample(sorted(rows), min(len(rows), 12)):
                    self.assertIs(is_way(program, fault, row), row in ways)
                    some += row not in ways
        self.assertGreater(some, 200)

    def test_shortest_refusing_rows_are_ways(self):
        some = 0
        for _, program in made_programs(200, levels=3):
            program = labelled(program)
            row = refusing_row(program)
            if row is not None:
                some += 1
                self.assertTrue(any(is_way(program, fault, row) for fault in type_faults(program)))
        self.assertGreater(some, 50)


class WrongTest(unittest.TestCase):
    def test_no_faults(self):
        wrong = [*NO_TUPLES, *of_other_kinds(FAULT), ("t", (1,), "clock", ("clock", "t", (1,))), FAULT[:3], (*FAULT, 0), WAY,
                 ("t", (2,), "choice", FAULT[3]), ("u", *FAULT[1:]), ("t", (2.0,), "clock", FAULT[3]), (FAULT,)]
        wrong += [value for value in otherwise(FAULT) if not same(value, FAULT)]
        for value in wrong:
            for ask in (lambda: way_of(EXAMPLE, value), lambda: is_way(EXAMPLE, value, WAY), lambda: is_way(EXAMPLE, value, None)):
                with self.assertRaises(InvalidQuestion, msg=value) as caught:
                    ask()
                self.assertEqual(caught.exception.at, 1)

    def test_places_with_true(self):
        program = program_with(("skip", 1), ("out", 0, A))
        fault = ("t", (1,), "value", ("out", "t", (1,)))
        self.assertEqual(way_of(program, fault), (NAME_A, ("out", "t", (1,))))
        for wrong in (("t", (True,), "value", ("out", "t", (1,))), ("t", (1,), "value", ("out", "t", (True,)))):
            with self.assertRaises(InvalidQuestion):
                way_of(program, wrong)
        self.assertIs(is_way(program, fault, (NAME_A, ("out", "t", (True,)))), False)

    def test_no_ways(self):
        for value in (*NO_TUPLES, *of_other_kinds(WAY), WAY[1:], WAY[:-1], (WAY[0], *WAY[2:]), (*WAY[:2], WAY[3]), WAY[::-1]):
            self.assertIs(is_way(EXAMPLE, FAULT, value), False, value)
        for value in otherwise(WAY):
            self.assertIs(is_way(EXAMPLE, FAULT, value), same(value, WAY), value)

    def test_programs_without_faults(self):
        program = (ORDER, (), (), (), (("t", (), ()),))
        with self.assertRaises(InvalidQuestion):
            way_of(program, FAULT)


if __name__ == "__main__":
    unittest.main()
