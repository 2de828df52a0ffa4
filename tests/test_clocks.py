"""Promise [25]."""
import unittest

from lookalike.clocks import lot_of, moment_lots, rise_of
from lookalike.labels import labelled, least_labels
from randomprograms import made_programs
from samples import FULL, ORDER
from typed import Typed
from wrongvalues import same
from ways import all_blocks

A, B, FOUR = ("name", "a"), ("name", "b"), ("word", 4, 3)
WAIT = ("while", A, (("set", "a", ("op", "shr", A, ("word", 4, 1))),))
THREAD = ("t", (("a", (1,), 4), ("c", (0,), 4)), (("take", "a", 1), WAIT, ("take", "c", 0)))
EXAMPLE = (((0,), (0, 1)), (), (), (), (THREAD,))
WIDE = tuple((level,) for level in range(12))


def wide(block, functions=()):
    """A program with twelve levels and names a to e, each with a level of its own, in a thread t."""
    places = tuple((name, (level,), 4) for level, name in enumerate("abcde"))
    return (WIDE, (("box", (5,), 4, 0),), (("row", (6,), 4, 3),), functions, (("t", places, tuple(block)),))


def function(name, lot, block, result):
    """A function with one param x with this lot and one local y with the lot (11,)."""
    return (name, (("x", lot, 4),), (("y", (11,), 4),), tuple(block), result)


def moments(program):
    return {(owner, place): (choice, clock) for owner, place, choice, clock in moment_lots(program)}


class LotTest(unittest.TestCase):
    def test_expressions(self):
        functions = (function("f", (7,), (), ("op", "add", ("name", "x"), ("name", "box"))),
                     function("g", (8,), (), ("call", "f", (("name", "y"),))))
        program = wide((), functions)
        name = {name: ("name", name) for name in "abcde"}
        for expression, lot in ((FOUR, ()), (name["c"], (2,)), (("name", "box"), (5,)), (("at", "row", FOUR), (6,)),
                                (("at", "row", name["b"]), (1, 6)), (("op", "add", name["e"], name["a"]), (0, 4)),
                                (("op", "lt", ("at", "row", ("name", "box")), name["d"]), (3, 5, 6)),
                                # What stands in args is left out.
                                (("call", "f", (name["a"],)), (5, 7)), (("call", "g", (name["a"],)), (5, 7)),
                                (("op", "mul", ("call", "g", (FOUR,)), name["a"]), (0, 5, 7))):
            self.assertEqual(lot_of(program=program, owner="t", expression=expression), lot, expression)
        self.assertEqual(lot_of(program, "g", ("call", "f", (("name", "y"),))), (5, 7))
        self.assertEqual(lot_of(program, "f", ("op", "add", ("name", "y"), ("name", "x"))), (7, 11))

    def test_locals_of_owners(self):
        functions = (("f", (("a", (7,), 4),), (), (), A),)
        self.assertEqual([lot_of(wide((), functions), owner, A) for owner in ("t", "f")], [(0,), (7,)])


class RiseTest(unittest.TestCase):
    def test_blocks(self):
        loop = ("while", ("name", "c"), ())
        functions = (function("f", (7,), (("while", ("name", "x"), ()),), FOUR),
                     function("g", (8,), (("if", ("name", "x"), (("set", "y", ("call", "f", (FOUR,))),), ()),), FOUR),
                     function("h", (9,), (("if", ("name", "x"), (), ()),), ("call", "f", (("call", "k", (FOUR,)),))))
        functions = (function("k", (10,), (("while", ("name", "y"), ()),), FOUR), *functions)
        program = wide((), functions)
        out = lambda name, *args: ("out", 0, ("call", name, args or (FOUR,)))
        for block, lot in (((), ()), ((("out", 0, A),), ()), ((loop,), (2,)), ((("times", 0, (loop,)),), (2,)),
                           ((("if", B, (loop,), ()),), (1, 2)), ((("if", B, (), (("times", 1, (loop,)),)),), (1, 2)),
                           ((("if", B, (("skip", 1),), ()),), ()), ((("if", B, (("if", A, (), ()),), ()), loop), (2,)),
                           ((out("f"),), (7,)), ((out("g"),), (7, 8)), ((out("h"),), (7, 11)), ((out("k"),), (11,)),
                           ((("if", B, (out("g"),), ()),), (1, 7, 8)), ((out("f", ("call", "k", (FOUR,))),), (7, 11)),
                           ((("if", ("call", "f", (FOUR,)), (), ()),), (7,)), ((("while", ("call", "f", (A,)), ()),), (7,)),
                           ((("while", A, (loop, out("k"))),), (0, 2, 11))):
            self.assertEqual(rise_of(program=program, owner="t", block=block), lot, block)
        self.assertEqual(rise_of(program, "f", (("while", ("name", "y"), ()),)), (11,))


class MomentsTest(unittest.TestCase):
    def test_example(self):
        self.assertEqual(moment_lots(program=EXAMPLE)[-1], ("t", (2,), (), (1,)))
        self.assertEqual(moment_lots(EXAMPLE), (
            ("t", (), (), ()), ("t", (0,), (), ()), ("t", (1,), (), (1,)), ("t", (1, 0, 0), (1,), (1,)), ("t", (2,), (), (1,))))

    def test_threads(self):
        told = moments(wide((("if", A, (("while", B, (("out", 0, FOUR),)), ("skip", 1)), (("skip", 1),)),
                             ("times", 0, (("skip", 1), ("while", ("name", "c"), ()))), ("if", ("name", "d"), (), (("skip", 1),)),
                             ("skip", 2))))
        self.assertEqual(told, {
            ("t", ()): ((), ()), ("t", (0,)): ((), ()), ("t", (0, 0, 0)): ((0,), (1,)), ("t", (0, 0, 0, 0, 0)): ((0, 1), (1,)),
            ("t", (0, 0, 1)): ((0,), (1,)), ("t", (0, 1, 0)): ((0,), ()), ("t", (1,)): ((), (0, 1, 2)),
            ("t", (1, 0, 0)): ((), (0, 1, 2)), ("t", (1, 0, 1)): ((), (0, 1, 2)), ("t", (2,)): ((), (0, 1, 2)),
            ("t", (2, 1, 0)): ((3,), (0, 1, 2)), ("t", (3,)): ((), (0, 1, 2))})

    def test_functions(self):
        inner = function("f", (7,), (("while", ("name", "x"), (("skip", 1),)),), FOUR)
        outer = function("g", (8,), (("skip", 1), ("while", ("name", "y"), ())), ("call", "f", (FOUR,)))
        never = function("h", (9,), (("if", ("name", "x"), (("skip", 1),), ()),), FOUR)
        call = ("out", 0, ("call", "g", (FOUR,)))
        told = moments(wide((("if", A, (call,), ()), ("while", B, ()), ("if", ("name", "c"), (), (call,))), (inner, outer, never)))
        # The rises of both functions lift the clock of who calls; that of the result is behind its block.
        self.assertEqual(told[("t", (0, 0, 0))], ((0,), (7, 11)))
        self.assertEqual(told[("t", (2, 1, 0))], ((2,), (0, 1, 7, 11)))
        self.assertEqual(told[("g", ())], ((0, 2), (0, 1, 7, 11)))
        self.assertEqual(told[("g", (0,))], ((0, 2), (0, 1, 7, 11)))
        self.assertEqual(told[("f", ())], ((0, 2), (0, 1, 7, 11)))
        self.assertEqual(told[("f", (0, 0, 0))], ((0, 2, 7), (0, 1, 7, 11)))
        self.assertEqual((told[("h", ())], told[("h", (0, 0, 0))]), (((), ()), ((9,), ())))

    def test_they_are_the_least_labels(self):
        some = 0
        for _, program in made_programs(250, told=True):
            labels = dict(least_labels(program))
            typed = Typed(program)
            told = moment_lots(program)
            self.assertEqual(list(told), sorted(set(told)))
            places = {(name, ()) for name in typed.own}
            for name, place, block in all_blocks(program):
                places |= {(name, (*place, index)) for index in range(len(block))}
            self.assertEqual([(owner, place) for owner, place, _, _ in told], sorted(places))
            for owner, place, choice, clock in told:
                pc_knot, clock_knot = ("pc", owner, place[:-1]), ("clock", owner, place)
                self.assertTrue(same((choice, clock), (labels.get(pc_knot, ()), labels.get(clock_knot, ()))))
                self.assertEqual((choice, clock), tuple(tuple(sorted(typed.labels[knot])) for knot in (pc_knot, clock_knot)))
                some += choice != () and clock != ()
            for name, _, block in all_blocks(program):
                self.assertEqual(set(rise_of(program, name, block)), typed.rise(name, block))
            for function in program[3]:
                self.assertEqual(lot_of(program, function[0], function[4]), labels.get(("result", function[0], ()), ()))
        self.assertGreater(some, 300)

    def test_full(self):
        program = labelled(FULL)
        labels = dict(least_labels(program))
        for owner, place, choice, clock in moment_lots(program):
            self.assertEqual(choice, labels.get(("pc", owner, place[:-1]), ()))
            self.assertEqual(clock, labels.get(("clock", owner, place), ()))
        self.assertEqual(ORDER, program[0])

    def test_many_rounds_and_calls(self):
        functions = [function("f0", (7,), (("while", ("name", "x"), ()),), FOUR)]
        for number in range(1, 20):
            call = ("call", f"f{number - 1}", (FOUR,))
            functions.append(function(f"f{number}", (8,), (("set", "y", call),) * 30, call))
        block = (("out", 0, ("call", "f19", (FOUR,))),)
        for _ in range(48):
            block = (("times", 64, block),)
        program = wide(block, tuple(functions))
        self.assertEqual(rise_of(program, "t", block), (7,))
        self.assertEqual(moment_lots(program)[-1], ("t", (0, 0) * 48 + (0,), (), (7,)))


if __name__ == "__main__":
    unittest.main()
