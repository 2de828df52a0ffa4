"""Promises [26] and [27]."""
import unittest

from lookalike.errors import Refused
from lookalike.faults import is_let_by, let_by, two_sided, type_faults
from lookalike.labels import labelled, least_labels
from lookalike.orders import covered, lot_within, order_of
from lookalike.programs import is_program
from lookalike.refusing import refusing_row
from randomprograms import made_programs
from samples import FULL, ORDER, SMALL
from test_clocks import EXAMPLE
from typed import Typed
from ways import all_blocks
from wrongvalues import same

A, FOUR = ("name", "a"), ("word", 4, 3)
EXPRESSIONS = {"set": slice(2, 3), "put": slice(2, 4), "out": slice(2, 3), "if": slice(1, 2), "while": slice(1, 2)}


def plain_faults(program):
    """The faults of a told program, by its least labels."""
    order = program[0]
    labels = dict(least_labels(program))
    typed = Typed(program)
    found = set()

    def ask(owner, place, word, knot, lot, asked):
        if not covered(order, tuple(sorted(asked)), lot):
            found.add((owner, place, word, knot))

    def ask_for_args(owner, place, expression):
        for call in typed.calls(expression):
            for param, arg in zip(typed.functions[call[1]][1], call[2]):
                ask(owner, place, "value", ("name", call[1], param[0]), param[1], typed.lot(owner, arg))

    for function in program[3]:
        ask_for_args(function[0], (), function[4])
    for owner, place, block in all_blocks(program):
        for index, statement in enumerate(block):
            spot = (*place, index)
            word = statement[0]
            expressions = statement[EXPRESSIONS.get(word, slice(0, 0))]
            value = set().union(*[typed.lot(owner, part) for part in expressions])
            choice, clock = labels.get(("pc", owner, place), ()), labels.get(("clock", owner, spot), ())
            for expression in expressions:
                ask_for_args(owner, spot, expression)
            if word in ("set", "put"):
                knot, lot = typed.named(owner, statement[1])
                lot = tuple(sorted(lot))
                ask(owner, spot, "value", knot, lot, value)
                ask(owner, spot, "choice", knot, lot, choice)
                if knot[1] == "":
                    ask(owner, spot, "clock", knot, lot, clock)
            elif word == "out":
                for told, asked in (("value", value), ("choice", choice), ("clock", clock)):
                    ask(owner, spot, told, ("out", owner, spot), (statement[1],), asked)
            elif word == "take":
                for told, asked in (("choice", choice), ("clock", clock)):
                    ask(owner, spot, told, ("take", owner, spot), (statement[2],), asked)
                knot, lot = typed.named(owner, statement[1])
                ask(owner, spot, "value", knot, tuple(sorted(lot)), {statement[2]})
    return tuple(sorted(found))


def program_with(*block, boxes=(), rows=(), functions=()):
    """A told program: a is secret, b is not."""
    return (ORDER, boxes, rows, functions, (("t", (("a", (1,), 4), ("b", (0,), 4)), tuple(block)),))


class FaultsTest(unittest.TestCase):
    def test_example(self):
        self.assertEqual(type_faults(program=EXAMPLE), (("t", (2,), "clock", ("take", "t", (2,))),))

    def test_each_statement(self):
        a, b, box, row = ("name", "t", "a"), ("name", "t", "b"), ("name", "", "box"), ("name", "", "row")
        boxes, rows = (("box", (0,), 4, 0), ("high", (1,), 4, 0)), (("row", (0,), 4, 2),)
        wait = ("while", A, ())
        for block, faults in (
                ((("set", "b", A),), [((0,), "value", b)]),
                ((("set", "a", ("name", "b")),), []),
                ((("set", "box", A),), [((0,), "value", box)]),
                ((("put", "row", A, FOUR),), [((0,), "value", row)]),
                ((("put", "row", FOUR, A),), [((0,), "value", row)]),
                ((("out", 0, A),), [((0,), "value", ("out", "t", (0,)))]),
                ((("out", 1, A),), []),
                ((("take", "b", 1),), [((0,), "value", b)]),
                ((("take", "box", 1),), [((0,), "value", box)]),
                ((("take", "a", 0), ("take", "a", 1)), []),
                ((("if", A, (("set", "b", FOUR),), (("set", "a", FOUR),)),), [((0, 0, 0), "choice", b)]),
                ((("if", A, (), (("set", "box", FOUR),)),), [((0, 1, 0), "choice", box)]),
                ((("if", A, (), (("put", "row", FOUR, FOUR),)),), [((0, 1, 0), "choice", row)]),
                ((("if", A, (("out", 0, FOUR), ("out", 1, FOUR)), ()),), [((0, 0, 0), "choice", ("out", "t", (0, 0, 0)))]),
                ((("if", A, (("take", "b", 0), ("take", "a", 1)), ()),), [((0, 0, 0), "choice", ("take", "t", (0, 0, 0)))]),
                ((("if", A, (("if", ("name", "b"), (("set", "b", FOUR),), ()),), ()),), [((0, 0, 0, 0, 0), "choice", b)]),
                # Locals are not asked for the clock.
                ((wait, ("set", "b", FOUR)), []),
                ((wait, ("set", "box", FOUR), ("set", "high", FOUR)), [((1,), "clock", box)]),
                ((wait, ("put", "row", FOUR, FOUR)), [((1,), "clock", row)]),
                ((wait, ("out", 0, FOUR), ("out", 1, FOUR)), [((1,), "clock", ("out", "t", (1,)))]),
                ((wait, ("take", "b", 0), ("take", "a", 1)), [((1,), "clock", ("take", "t", (1,)))]),
                ((wait, ("if", A, (("out", 0, A),), ())),
                 [((1, 0, 0), word, ("out", "t", (1, 0, 0))) for word in ("choice", "clock", "value")])):
            told = tuple(("t", *fault) for fault in faults)
            self.assertEqual(type_faults(program_with(*block, boxes=boxes, rows=rows)), told, block)

    def test_calls(self):
        low = ("f", (("x", (0,), 4), ("y", (1,), 4)), (), (), ("name", "x"))
        high = ("g", (("z", (1,), 4),), (), (("set", "z", ("call", "f", (("name", "z"), ("name", "z")))),),
                ("call", "f", (("call", "f", (("name", "z"), FOUR)), FOUR)))
        x = ("name", "f", "x")
        call = ("call", "f", (A, A))
        program = program_with(("out", 1, call), ("if", call, (), ()), ("while", ("call", "g", (A,)), ()), functions=(low, high))
        self.assertEqual(type_faults(program), (
            ("g", (), "value", x), ("g", (0,), "value", x), ("t", (0,), "value", x), ("t", (1,), "value", x)))
        # The lot of the result counts where it is called, not what stands in the args.
        program = program_with(("set", "b", ("call", "f", (("name", "b"), A))), functions=(low,))
        self.assertEqual(type_faults(program), ())
        # One of several calls is enough, and tells one fault.
        both = ("op", "add", ("call", "f", (FOUR, FOUR)), ("op", "add", call, call))
        self.assertEqual(type_faults(program_with(("out", 0, both), functions=(low,))), (("t", (0,), "value", x),))

    def test_functions_hang_on_all_who_call_them(self):
        function = ("f", (), (), (("out", 0, FOUR),), FOUR)
        out = ("out", "f", (0,))
        call = ("set", "a", ("call", "f", ()))
        program = program_with(call, ("if", A, (call,), ()), ("while", A, ()), functions=(function,))
        self.assertEqual(type_faults(program), (("f", (0,), "choice", out),))
        program = program_with(("while", A, ()), call, functions=(function,))
        self.assertEqual(type_faults(program), (("f", (0,), "clock", out),))
        self.assertEqual(type_faults(program_with(("while", A, ()), functions=(function,))), ())

    def test_lots_that_cover_each_other(self):
        order = ((0,), (1,), (0, 1, 2))
        thread = ("t", (("a", (0, 1), 4), ("b", (2,), 4)), (("set", "b", A), ("set", "a", ("name", "b")), ("out", 2, A), ("out", 0, A)))
        self.assertEqual(type_faults((order, (), (), (), (thread,))), (("t", (3,), "value", ("out", "t", (3,))),))

    def test_as_told_by_labels(self):
        words = dict.fromkeys(["value", "choice", "clock"], 0)
        results = 0
        for _, program in made_programs(300, told=True):
            faults = type_faults(program)
            self.assertTrue(same(faults, plain_faults(program)))
            self.assertEqual({knot for _, _, _, knot in faults}, set(Typed(program).faults))
            for owner, place, word, knot in faults:
                words[word] += 1
                results += place == ()
        self.assertGreater(min(words.values()), 100)
        self.assertGreater(results, 0)

    def test_there_is_one_exactly_if_there_is_a_refusing_row(self):
        for settings in ({"told": True}, {"told": None}, {"told": False, "levels": 2}):
            both = [0, 0]
            for _, program in made_programs(150, **settings):
                told = labelled(program)
                self.assertEqual(type_faults(told) == (), refusing_row(program) is None)
                both[type_faults(told) == ()] += 1
            self.assertGreater(min(both), 15)


class LetByTest(unittest.TestCase):
    def test_let_by(self):
        self.assertIs(is_let_by(program=SMALL), True)
        self.assertEqual(let_by(program=SMALL), labelled(SMALL))
        self.assertEqual(let_by(SMALL)[4][0][1], (("a", (1,), 4),))

    def test_refused(self):
        self.assertIs(is_let_by(EXAMPLE), False)
        with self.assertRaises(Refused) as caught:
            let_by(EXAMPLE)
        self.assertEqual(caught.exception.at, 1)
        program = program_with(("set", "b", A), ("out", 0, A), ("if", A, (("set", "b", FOUR),), ()))
        with self.assertRaises(Refused) as caught:
            let_by(program)
        self.assertEqual(caught.exception.at, 3)

    def test_open_lots(self):
        thread = ("t", (("a", None, 4), ("b", None, 4)), (("take", "a", 1), ("set", "b", A), ("out", 0, ("name", "b"))))
        with self.assertRaises(Refused) as caught:
            let_by((ORDER, (), (), (), (thread,)))
        self.assertEqual(caught.exception.at, 1)
        thread = (*thread[:2], (*thread[2][:2], ("out", 1, ("name", "b"))))
        self.assertEqual(let_by((ORDER, (), (), (), (thread,)))[4][0][1], (("a", (1,), 4), ("b", (1,), 4)))

    def test_made_ones(self):
        for _, program in made_programs(200, levels=3):
            told = labelled(program)
            faults = plain_faults(told)
            self.assertIs(is_let_by(program), faults == ())
            if faults == ():
                self.assertTrue(same(let_by(program), told))
            else:
                with self.assertRaises(Refused) as caught:
                    let_by(program)
                self.assertEqual(caught.exception.at, len(faults))


class TwoSidedTest(unittest.TestCase):
    def test_parts(self):
        order = order_of(3, [(0, 1), (1, 2)])
        block = (("take", "a", 1), ("if", A, (("out", 2, A), ("out", 0, A)), (("while", A, (("take", "b", 0),)),)),
                 ("times", 2, (("out", 1, A), ("skip", 1))))
        function = ("f", (("x", (0, 2), 4),), (("y", (), 4),), (("out", 1, FOUR),), ("name", "x"))
        program = (order, (("b", (1,), 8, 3), ("c", (0, 1), 1, 1)), (("r", (2,), 4, 5),), (function,),
                   (("t", (("a", (0,), 4),), block), ("u", (), (("out", 2, FOUR),))))
        sided = two_sided(program=program, level=1)
        inner = (("take", "a", 0), ("if", A, (("out", 1, A), ("out", 0, A)), (("while", A, (("take", "b", 0),)),)),
                 ("times", 2, (("out", 0, A), ("skip", 1))))
        self.assertEqual(sided, (((0,), (0, 1)), (("b", (), 8, 3), ("c", (), 1, 1)), (("r", (1,), 4, 5),),
                                 (("f", (("x", (1,), 4),), (("y", (), 4),), (("out", 0, FOUR),), ("name", "x")),),
                                 (("t", (("a", (), 4),), inner), ("u", (), (("out", 1, FOUR),)))))
        self.assertEqual(two_sided(program, 0)[1], (("b", (1,), 8, 3), ("c", (1,), 1, 1)))
        self.assertEqual(two_sided(program, 2)[2], (("r", (), 4, 5),))

    def test_one_level(self):
        program = (((0,),), (("b", (0,), 4, 1),), (), (), (("t", (), (("out", 0, FOUR),)),))
        self.assertEqual(two_sided(program, 0), (((0,), (0, 1)), (("b", (), 4, 1),), *program[2:]))

    def test_faults_of_all_levels_put_together(self):
        some = 0
        for _, program in made_programs(250, told=True):
            found = set()
            for level in range(len(program[0])):
                sided = two_sided(program, level)
                self.assertTrue(is_program(sided))
                for box, other in zip(program[1] + program[2], sided[1] + sided[2]):
                    self.assertEqual(other[1], () if lot_within(program[0], box[1], level) else (1,))
                found.update(type_faults(sided))
                # Each watcher asks for some of them.
                some += 0 < len(type_faults(sided)) < len(type_faults(program))
            self.assertEqual(tuple(sorted(found)), type_faults(program))
        self.assertGreater(some, 100)

    def test_full(self):
        program = labelled(FULL)
        self.assertEqual(two_sided(program, 0)[4][0][2][-1], FULL[4][0][2][-1])
        self.assertTrue(same(two_sided(two_sided(program, 0), 0), two_sided(program, 0)))


if __name__ == "__main__":
    unittest.main()
