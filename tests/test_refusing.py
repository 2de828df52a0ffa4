"""Promise [23]."""
import itertools
import unittest

from lookalike.knots import flows
from lookalike.labels import are_fitting, least_labels
from lookalike.refusing import is_refusing_row, refusing_row
from randomprograms import made_programs
from samples import ORDER, SMALL
from test_labels import EXAMPLE, with_lots
from typed import Typed
from wrongvalues import NO_TUPLES, of_other_kinds, otherwise, same

A = ("name", "a")
ROW = (("name", "t", "a"), ("pc", "t", (1, 0)), ("name", "t", "b"), ("out", "t", (2,)))


class RefusingRowTest(unittest.TestCase):
    def test_example(self):
        self.assertEqual(refusing_row(program=EXAMPLE), ROW)
        self.assertIs(is_refusing_row(program=EXAMPLE, value=ROW), True)

    def test_none(self):
        self.assertIsNone(refusing_row(SMALL))
        self.assertIsNone(refusing_row(with_lots(None, None, 1)))
        self.assertIsNone(refusing_row(with_lots((1,), (1,), 1)))

    def test_told_lots_stand_at_the_ends(self):
        self.assertEqual(refusing_row(with_lots(None, (1,), 0)), ROW[2:])
        self.assertIs(is_refusing_row(with_lots(None, (1,), 0), ROW[2:]), True)
        self.assertIs(is_refusing_row(with_lots(None, (1,), 0), ROW), False)
        self.assertEqual(refusing_row(with_lots(None, (), 0)), ROW[:3])
        self.assertIs(is_refusing_row(with_lots((1,), None, 0), ROW), True)

    def test_one_knot(self):
        program = (ORDER, (), (), (), (("t", (("a", (), 4),), (("take", "a", 1),)),))
        self.assertEqual(refusing_row(program), (("name", "t", "a"),))
        self.assertIs(is_refusing_row(program, (("name", "t", "a"),)), True)
        for level in (0, 1):
            told = (ORDER, (), (), (), (("t", (("a", (level,), 4),), (("take", "a", level),)),))
            self.assertIs(is_refusing_row(told, (("name", "t", "a"),)), False)
            self.assertIsNone(refusing_row(told))

    def test_clocks(self):
        wait = ("while", A, (("set", "a", ("op", "shr", A, ("word", 4, 1))),))
        program = (ORDER, (), (), (), (("t", (("a", None, 4), ("c", None, 4)), (("take", "a", 1), wait, ("take", "c", 0))),))
        row = (("name", "t", "a"), ("clock", "t", (1,)), ("clock", "t", (2,)), ("take", "t", (2,)))
        self.assertEqual(refusing_row(program), row)
        self.assertIs(is_refusing_row(program, row), True)

    def test_no_knot_stands_twice(self):
        wait = ("while", A, (("skip", 1),))
        program = (ORDER, (), (), (), (("t", (("a", None, 4),), (("take", "a", 1), wait, ("out", 0, ("word", 1, 0)))),))
        name, end, clock, inner = ("name", "t", "a"), ("out", "t", (2,)), ("clock", "t", (1,)), ("clock", "t", (1, 0, 0))
        behind = ("clock", "t", (2,))
        self.assertIs(is_refusing_row(program, (name, clock, behind, end)), True)
        self.assertEqual(flows(program).count((clock, inner)) + flows(program).count((inner, clock)), 2)
        self.assertIs(is_refusing_row(program, (name, clock, inner, clock, behind, end)), False)

    def test_no_told_lot_within(self):
        def program(*lots):
            names = [(name, lot, 4) for name, lot in zip("abcd", lots)]
            sets = [("set", other, ("name", one)) for one, other in zip("abc", "bcd")]
            return (ORDER, (), (), (), (("t", tuple(names), (("take", "a", 1), *sets, ("out", 0, ("name", "d")))),))
        row = (*[("name", "t", name) for name in "abcd"], ("out", "t", (4,)))
        self.assertEqual(refusing_row(program(None, None, None, None)), row)
        for index in range(4):
            lots = [None] * 4
            lots[index] = (1,)
            self.assertIs(is_refusing_row(program(*lots), row), index == 0)
            self.assertEqual(refusing_row(program(*lots)), row[index:])
            lots[index] = ()
            if index > 0:
                self.assertEqual(refusing_row(program(*lots)), row[:index + 1])

    def test_other_rows_of_the_example(self):
        for value in (ROW[1:], ROW[:-1], ROW[::-1], (), (*ROW, ROW[-1]), (ROW[0], *ROW), (ROW[0], *ROW[2:]), (*ROW[:2], ROW[3]), ROW[:1],
                      ROW[3:], (ROW[0], ("pc", "t", (1, 1)), *ROW[2:]), (("name", "t", "z"), *ROW[1:]), ROW + ROW,
                      (ROW[0], ("pc", "t", (1.0, 0)), *ROW[2:]), (ROW[0], ("pc", "t", (True, False)), *ROW[2:])):
            self.assertIs(is_refusing_row(EXAMPLE, value), False, value)

    def test_wrong_values(self):
        for value in (*NO_TUPLES, *of_other_kinds(ROW)):
            self.assertIs(is_refusing_row(EXAMPLE, value), False, value)
        for value in otherwise(ROW):
            self.assertIs(is_refusing_row(EXAMPLE, value), same(value, ROW), value)
        for value in (None, [], {}, 1, "t", ([], "t", ()), ("name", [], "a"), ("name", "t", []), ("pc", "t", ([],)),
                      ("pc", "t", "a"), ("name", "t", ()), (None, None, None), ("pc", "t", ({},))):
            self.assertIs(is_refusing_row(EXAMPLE, (ROW[0], value, *ROW[2:])), False)
            self.assertIs(is_refusing_row(EXAMPLE, (value,)), False)

    def test_there_is_one_exactly_if_the_least_labels_do_not_fit(self):
        found = {}
        for settings in ({"told": True}, {"told": None}, {"told": False}):
            for _, program in made_programs(150, **settings):
                row = refusing_row(program)
                fits = are_fitting(program, least_labels(program))
                self.assertIs(fits, row is None)
                found[fits] = found.get(fits, 0) + 1
                if settings["told"]:
                    self.assertIs(fits, not Typed(program).faults)
                if row is not None:
                    self.assertIs(is_refusing_row(program, row), True)
        self.assertGreater(min(found[True], found[False]), 50)

    def test_no_shorter_one(self):
        for _, program in made_programs(60, told=False):
            row = refusing_row(program)
            if row is None or len(row) > 4:
                continue
            leads = {}
            for knot, target in flows(program):
                leads.setdefault(knot, []).append(target)
            knots = [knot for knot, _ in least_labels(program)]
            ways = [(knot,) for knot in knots]
            for _ in range(len(row) - 1):
                self.assertFalse(any(is_refusing_row(program, way) for way in itertools.islice(ways, 400)))
                ways = [(*way, target) for way in ways for target in leads.get(way[-1], [])]


if __name__ == "__main__":
    unittest.main()
