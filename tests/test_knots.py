"""Promises [20] and [21]."""
import unittest

from lookalike.knots import caps, flows, open_knots, sources
from lookalike.labels import labelled, least_labels
from randomprograms import made_programs
from samples import FULL, ORDER, SMALL
from typed import Typed

A, B = ("name", "a"), ("name", "b")
NAME_A, NAME_B, BOX, ROW = ("name", "t", "a"), ("name", "t", "b"), ("name", "", "c"), ("name", "", "r")


def clock(*place):
    return ("clock", "t", place)


def after(*place):
    return ("after", "t", place)


def pc(*place):
    return ("pc", "t", place)


def program_with(*block, functions=()):
    """Two locals, a box and a row."""
    thread = ("t", (("a", None, 4), ("b", None, 1)), tuple(block))
    return (ORDER, (("c", (0,), 8, 0),), (("r", None, 4, 3),), tuple(functions), (thread,))


class FlowsTest(unittest.TestCase):
    def check(self, program, *pairs):
        self.assertEqual(flows(program), tuple(sorted(set(pairs))))

    def check_one(self, statement, *pairs, functions=()):
        """The flows of a block with this statement alone, those of its clock but the first left out."""
        self.check(program_with(statement, functions=functions), (clock(), clock(0)), *pairs)

    def test_empty_blocks(self):
        self.check(program_with(), (clock(), after()))
        self.check(program_with(("skip", 3), ("skip", 0)), (clock(), clock(0)), (clock(0), clock(1)), (clock(1), after()))

    def test_set(self):
        end = (clock(0), after())
        self.check_one(("set", "a", ("op", "add", A, ("at", "r", B))), end, (NAME_B, NAME_A), (ROW, NAME_A), (pc(), NAME_A))
        self.check_one(("set", "a", A), end, (pc(), NAME_A))
        self.check_one(("set", "c", ("name", "c")), end, (pc(), BOX), (clock(0), BOX))
        self.check_one(("set", "c", ("word", 8, 1)), end, (pc(), BOX), (clock(0), BOX))

    def test_put(self):
        self.check_one(("put", "r", B, ("op", "add", A, A)), (clock(0), after()), (NAME_A, ROW), (NAME_B, ROW), (clock(0), ROW),
                       (pc(), ROW))
        self.check_one(("put", "r", ("name", "c"), ("at", "r", A)), (clock(0), after()), (NAME_A, ROW), (BOX, ROW), (clock(0), ROW),
                       (pc(), ROW))

    def test_out_and_take(self):
        out, take = ("out", "t", (0,)), ("take", "t", (0,))
        self.check_one(("out", 0, ("op", "eq", A, ("word", 4, 1))), (clock(0), after()), (NAME_A, out), (clock(0), out), (pc(), out))
        self.check_one(("take", "a", 1), (clock(0), after()), (clock(0), take), (pc(), take))
        self.check_one(("take", "c", 1), (clock(0), after()), (clock(0), take), (pc(), take))

    def test_timed_if(self):
        self.check_one(("if", A, (), ()), (NAME_A, pc(0, 0)), (NAME_A, pc(0, 1)), (pc(), pc(0, 0)), (pc(), pc(0, 1)),
                       (clock(0), after(0)), (after(0), after()))
        self.check_one(("if", A, (("skip", 1),), (("times", 2, ()), ("if", B, (), ()))),
                       (NAME_A, pc(0, 0)), (NAME_A, pc(0, 1)), (pc(), pc(0, 0)), (pc(), pc(0, 1)),
                       (clock(0), clock(0, 0, 0)), (clock(0, 0, 0), after(0)),
                       (clock(0), clock(0, 1, 0)), (clock(0, 1, 0), clock(0, 1, 1)), (pc(0, 1), pc(0, 1, 0, 0)),
                       (NAME_B, pc(0, 1, 1, 0)), (NAME_B, pc(0, 1, 1, 1)), (pc(0, 1), pc(0, 1, 1, 0)), (pc(0, 1), pc(0, 1, 1, 1)),
                       (clock(0, 1, 1), after(0, 1, 1)), (after(0, 1, 1), after(0)), (after(0), after()))

    def test_if_that_is_not_timed(self):
        wait = ("while", B, ())
        for place, sides in (((0, 0), ((wait,), ())), ((0, 1), ((), (wait,)))):
            other = (0, 1 - place[1])
            self.check_one(("if", A, *sides), (NAME_A, pc(*place)), (NAME_A, pc(*other)), (pc(), pc(*place)), (pc(), pc(*other)),
                           (clock(0), clock(*place, 0)), (pc(*place), pc(*place, 0, 0)), (NAME_B, pc(*place, 0, 0)),
                           (NAME_B, clock(*place, 0)), (clock(*place, 0), after(0)), (clock(0), after(0)), (NAME_A, after(0)),
                           (after(0), after()))
        deep = ("if", A, (("times", 2, (("if", B, (), (wait,)),)),), ())
        self.assertIn((NAME_A, after(0)), flows(program_with(deep)))

    def test_while(self):
        self.check_one(("while", A, ()), (NAME_A, pc(0, 0)), (pc(), pc(0, 0)), (NAME_A, clock(0)), (clock(0), after()))
        self.check_one(("while", A, (("skip", 1), ("if", B, (), ()))), (NAME_A, pc(0, 0)), (pc(), pc(0, 0)), (NAME_A, clock(0)),
                       (clock(0), clock(0, 0, 0)), (clock(0, 0, 0), clock(0, 0, 1)), (clock(0, 0, 1), after(0, 0, 1)),
                       (after(0, 0, 1), clock(0)), (NAME_B, pc(0, 0, 1, 0)), (NAME_B, pc(0, 0, 1, 1)), (pc(0, 0), pc(0, 0, 1, 0)),
                       (pc(0, 0), pc(0, 0, 1, 1)), (clock(0), after()))

    def test_times(self):
        self.check_one(("times", 3, ()), (pc(), pc(0, 0)), (clock(0), after()))
        self.check_one(("times", 0, (("set", "a", B),)), (pc(), pc(0, 0)), (clock(0), clock(0, 0, 0)), (clock(0, 0, 0), clock(0)),
                       (NAME_B, NAME_A), (pc(0, 0), NAME_A), (clock(0), after()))

    def test_functions(self):
        function = ("f", (("x", None, 4), ("y", None, 1)), (("z", None, 4),), (("set", "z", ("name", "x")),), ("name", "z"))
        inner = [(("clock", "f", ()), ("clock", "f", (0,))), (("clock", "f", (0,)), ("after", "f", ())),
                 (("name", "f", "x"), ("name", "f", "z")), (("pc", "f", ()), ("name", "f", "z")),
                 (("name", "f", "z"), ("result", "f", ()))]
        use = [(("rise", "f", ()), clock(0)), (clock(0), ("clock", "f", ())), (pc(), ("pc", "f", ()))]
        self.check_one(("skip", 1), (clock(0), after()), *inner, functions=[function])
        self.check_one(("set", "a", ("call", "f", (A, ("op", "eq", ("name", "c"), ("name", "c"))))), (clock(0), after()), *inner,
                       *use, (NAME_A, ("name", "f", "x")), (BOX, ("name", "f", "y")), (("result", "f", ()), NAME_A), (pc(), NAME_A),
                       functions=[function])
        # A call in an arg: its result is read by the param, not by who reads the outer call.
        nested = ("call", "f", (("call", "f", (A, B)), ("word", 1, 0)))
        self.check_one(("out", 0, nested), (clock(0), after()), *inner, *use, (NAME_A, ("name", "f", "x")),
                       (NAME_B, ("name", "f", "y")), (("result", "f", ()), ("name", "f", "x")),
                       (("result", "f", ()), ("out", "t", (0,))), (clock(0), ("out", "t", (0,))), (pc(), ("out", "t", (0,))),
                       functions=[function])

    def test_rises(self):
        wait = ("while", ("op", "lt", ("name", "x"), ("call", "e", ())), ())
        plain = ("e", (), (), (), ("name", "c"))
        waits = ("f", (("x", None, 8),), (), (wait,), ("word", 4, 1))
        calls = ("g", (("y", None, 1),), (), (("if", ("name", "y"), (("out", 0, ("call", "f", (("word", 8, 1),))),), ()),),
                 ("call", "e", ()))
        found = flows(program_with(("if", A, (("out", 1, ("call", "g", (B,))),), ()), functions=[plain, waits, calls]))
        rises = [pair for pair in found if "rise" in (pair[0][0], pair[1][0])]
        rise_e, rise_f, rise_g = ("rise", "e", ()), ("rise", "f", ()), ("rise", "g", ())
        self.assertEqual(rises, sorted([
            (rise_e, ("clock", "f", (0,))), (rise_e, rise_f), (("name", "f", "x"), rise_f), (("result", "e", ()), rise_f),
            (rise_f, ("clock", "g", (0, 0, 0))), (rise_f, rise_g), (("name", "g", "y"), rise_g), (rise_e, rise_g),
            (rise_e, ("after", "g", ())), (rise_g, clock(0, 0, 0)),
        ]))
        self.assertIn((NAME_A, after(0)), found)
        self.assertIn((("name", "g", "y"), ("after", "g", (0,))), found)
        self.assertIn((("after", "g", ()), ("clock", "e", ())), found)
        self.assertIn((("pc", "g", ()), ("pc", "e", ())), found)

    def test_calls_in_conditions_leave_an_if_timed(self):
        waits = ("f", (("x", None, 4),), (), (("while", ("name", "x"), ()),), ("name", "x"))
        call = ("call", "f", (A,))
        self.assertNotIn((("result", "f", ()), after(0)), flows(program_with(("if", call, (), ()), functions=[waits])))
        self.assertIn((NAME_B, after(0)), flows(program_with(("if", B, (("set", "a", call),), ()), functions=[waits])))
        waits_behind = ("g", (), (), (), ("call", "f", (("word", 4, 1),)))
        side = (("set", "a", ("call", "g", ())),)
        self.assertIn((NAME_B, after(0)), flows(program_with(("if", B, side, ()), functions=[waits, waits_behind])))

    def test_no_knot_flows_to_itself_and_all_ascend(self):
        for _, program in made_programs(100):
            found = flows(program)
            self.assertEqual(list(found), sorted(set(found)))
            self.assertTrue(all(one != other for one, other in found))

    def test_labels_are_those_that_are_told_without_flows(self):
        for settings in ({"told": True}, {"told": None}, {"told": False}):
            for _, program in made_programs(120, **settings):
                labels = dict(least_labels(program))
                typed = Typed(labelled(program))
                for knot, lot in typed.labels.items():
                    self.assertEqual(labels.get(knot, ()), tuple(sorted(lot)), knot)
                self.assertTrue(all(knot[0] == "name" or knot in typed.labels for knot in labels))


class SourcesTest(unittest.TestCase):
    def test_small(self):
        self.assertEqual(sources(SMALL), ((("name", "", "b"), 0), (("name", "t", "a"), 1)))
        self.assertEqual(caps(SMALL), ((("name", "", "b"), (0,)), (("out", "t", (2,)), (1,)), (("take", "t", (0,)), (1,))))
        self.assertEqual(open_knots(SMALL), (("name", "t", "a"),))

    def test_full(self):
        self.assertEqual(sources(program=FULL), (
            (("name", "", "b"), 0), (("name", "", "r"), 1), (("name", "f", "d"), 1), (("name", "t", "f"), 0),
            (("name", "t", "f"), 1)))
        self.assertEqual(caps(program=FULL), (
            (("name", "", "b"), ()), (("name", "", "r"), (1,)), (("name", "f", "c"), ()), (("name", "f", "d"), (1,)),
            (("name", "t", "f"), (0, 1)), (("out", "t", (3, 1, 1)), (1,)), (("out", "t", (7,)), (0,)), (("take", "t", (0,)), (0,))))
        self.assertEqual(open_knots(program=FULL), (
            ("name", "", "c2"), ("name", "", "q"), ("name", "f", "a"), ("name", "t", "a")))

    def test_take_of_what_is_told(self):
        program = (ORDER, (), (), (), (("t", (("a", (1,), 4),), (("take", "a", 1), ("while", A, (("take", "a", 0),)))),))
        self.assertEqual(sources(program), ((("name", "t", "a"), 0), (("name", "t", "a"), 1)))
        self.assertEqual(caps(program), ((("name", "t", "a"), (1,)), (("take", "t", (0,)), (1,)), (("take", "t", (1, 0, 0)), (0,))))
        self.assertEqual(open_knots(program), ())

    def test_names_in_functions(self):
        function = ("f", (), (("a", None, 4),), (("take", "a", 1), ("out", 0, A)), A)
        program = (ORDER, (), (), (function,), (("t", (("a", None, 4),), ()),))
        self.assertEqual(sources(program), ((("name", "f", "a"), 1),))
        self.assertEqual(caps(program), ((("out", "f", (1,)), (0,)), (("take", "f", (0,)), (1,))))
        self.assertEqual(open_knots(program), (("name", "f", "a"), ("name", "t", "a")))


if __name__ == "__main__":
    unittest.main()
