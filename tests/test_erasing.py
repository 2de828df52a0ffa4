"""Promise [29]."""
import unittest

from lookalike.erasing import erased
from lookalike.faults import is_let_by, type_faults
from lookalike.labels import labelled, program_ends
from lookalike.meaning import run_program
from lookalike.orders import lot_within, order_of
from lookalike.padding import padded_program
from lookalike.programs import expression_width, is_program
from lookalike.records import cut_record, seen
from lookalike.sides import secret_ifs
from lookalike.spans import thread_spans
from letbyprograms import let_by_programs
from randomprograms import made_programs
from samples import FULL, ORDER
from test_clocks import EXAMPLE
from ways import all_blocks
from wrongvalues import same

A, B, FOUR, ZERO = ("name", "a"), ("name", "b"), ("word", 4, 3), ("word", 4, 0)


def plainly_erased(program, level):
    """The same, told part by part."""
    order, boxes, rows, functions, threads = program
    lots = {("", box[0]): box for box in boxes}
    for owner in functions + threads:
        for place in owner[1] + (owner[2] if len(owner) == 5 else ()):
            lots[(owner[0], place[0])] = place

    def place_of(owner, name):
        return lots.get((owner, name), lots.get(("", name)))

    def expression(owner, part):
        if part[0] == "name" and not lot_within(order, place_of(owner, part[1])[1], level):
            return ("word", place_of(owner, part[1])[2], 0)
        if part[0] == "call":
            return (*part[:2], tuple(expression(owner, arg) for arg in part[2]))
        return tuple(expression(owner, inner) if isinstance(inner, tuple) else inner for inner in part)

    def statement(owner, part):
        word = part[0]
        if word == "take":
            hidden = part[2] not in order[level]
            return ("set", part[1], ("word", place_of(owner, part[1])[2], 0)) if hidden else part
        if word in ("set", "put", "out"):
            return tuple(expression(owner, inner) if isinstance(inner, tuple) else inner for inner in part)
        if word == "skip":
            return part
        if word == "times":
            return (word, part[1], block(owner, part[2]))
        return (word, expression(owner, part[1]), *[block(owner, inner) for inner in part[2:]])

    def block(owner, statements):
        return tuple(statement(owner, part) for part in statements)

    return (order, tuple((*box[:3], box[3] if lot_within(order, box[1], level) else 0) for box in boxes), rows,
            tuple((*f[:3], block(f[0], f[3]), expression(f[0], f[4])) for f in functions),
            tuple((*t[:2], block(t[0], t[2])) for t in threads))


class ErasedTest(unittest.TestCase):
    def test_example(self):
        self.assertEqual(erased(EXAMPLE, 0)[4][0][2][1][1], ("word", 4, 0))
        self.assertEqual(erased(program=EXAMPLE, level=1), EXAMPLE)

    def test_each_part(self):
        order = order_of(3, [(0, 1)])
        both = ("op", "lt", A, B)
        block = (("take", "a", 1), ("take", "b", 0), ("take", "c", 1), ("set", "a", ("op", "add", A, B)),
                 ("put", "r", ("at", "r", A), ("call", "f", (A, B))), ("if", both, (("out", 1, A),), (("take", "b", 2),)),
                 ("while", both, (("times", 3, (("out", 0, ("name", "c")),)),)), ("skip", 3))
        function = ("f", (("a", (0,), 4), ("b", (2,), 4)), (("x", (1, 2), 1),), (("set", "x", both),), ("op", "add", A, B))
        places = (("a", (1,), 4), ("b", (0,), 4))
        program = (order, (("c", (0, 1), 8, 9), ("d", (0,), 8, 9)), (("r", (1,), 4, 3),), (function,), (("t", places, block),))
        less = ("op", "lt", ZERO, B)
        told = (("set", "a", ZERO), ("take", "b", 0), ("set", "c", ("word", 8, 0)), ("set", "a", ("op", "add", ZERO, B)),
                ("put", "r", ("at", "r", ZERO), ("call", "f", (ZERO, B))), ("if", less, (("out", 1, ZERO),), (("set", "b", ZERO),)),
                ("while", less, (("times", 3, (("out", 0, ("word", 8, 0)),)),)), ("skip", 3))
        function = (*function[:3], (("set", "x", ("op", "lt", A, ZERO)),), ("op", "add", A, ZERO))
        self.assertEqual(erased(program, 0), (order, (("c", (0, 1), 8, 0), ("d", (0,), 8, 9)), *program[2:3], (function,),
                                              (("t", places, told),)))

    def test_names_of_rows_and_words_stay(self):
        block = (("out", 0, ("at", "r", FOUR)), ("put", "r", FOUR, FOUR))
        program = (ORDER, (), (("r", (1,), 4, 3),), (), (("t", (("a", (1,), 4),), block),))
        self.assertEqual(erased(program, 0), program)

    def test_as_told_another_way(self):
        changed = 0
        for _, program in made_programs(150, told=True):
            for level in range(len(program[0])):
                bare = erased(program, level)
                self.assertTrue(same(bare, plainly_erased(program, level)))
                changed += bare != program
        self.assertGreater(changed, 150)

    def test_facts(self):
        for _, program in made_programs(150, told=True):
            places = {fault[:2] for fault in type_faults(program)}
            for level in range(len(program[0])):
                bare = erased(program, level)
                self.assertTrue(is_program(bare))
                self.assertTrue(same(erased(bare, level), bare))
                self.assertEqual(thread_spans(bare), thread_spans(program))
                self.assertLessEqual({fault[:2] for fault in type_faults(bare)}, places)
                self.assertEqual([place for _, place, _ in all_blocks(bare)], [place for _, place, _ in all_blocks(program)])
                for function, other in zip(program[3], bare[3]):
                    self.assertEqual(expression_width(bare, function[0], other[4]),
                                     expression_width(program, function[0], function[4]))

    def test_full(self):
        program = labelled(FULL)
        for level in (0, 1):
            self.assertTrue(same(erased(program, level), plainly_erased(program, level)))


class SeenTest(unittest.TestCase):
    """Whoever watches a program that is let by sees what he sees of it, padded, and erased."""

    def check(self, maker, program):
        padded = padded_program(labelled(program))
        ends = program_ends(padded)
        shown = 0
        for inputs in [maker.input(program[0]) for _ in range(2)]:
            record = run_program(padded, inputs, 200)
            for level in range(len(program[0])):
                bare = run_program(erased(padded, level), inputs, 200)
                sight = seen(program[0], level, ends, record)
                self.assertEqual(sight, seen(program[0], level, ends, bare))
                for tick in (0, 3, 50):
                    self.assertEqual(cut_record(sight, tick), seen(program[0], level, ends, cut_record(bare, tick)))
                shown += bare != record
        return shown

    def test_made_ones(self):
        shown = secrets = 0
        for settings in ({"told": None, "levels": 2}, {"told": True, "levels": 2}):
            for maker, program in made_programs(150, **settings):
                if is_let_by(program):
                    shown += self.check(maker, program)
        for maker, program in let_by_programs(350):
            self.assertTrue(is_let_by(program))
            shown += self.check(maker, program)
            secrets += secret_ifs(labelled(program)) != ()
        self.assertGreater(shown, 40)
        self.assertGreater(secrets, 60)

    def test_a_secret_choice(self):
        thread = ("t", (("a", None, 4), ("b", None, 4)), (
            ("take", "a", 1), ("if", A, (("set", "b", A), ("skip", 5)), ()), ("out", 0, FOUR), ("out", 1, B), ("while", A, ())))
        program = (ORDER, (), (), (), (thread, ("u", (), (("skip", 3), ("out", 0, FOUR)))))
        padded = padded_program(labelled(program))
        for inputs in (((), ()), ((), (7,)), ((), (16,))):
            record = run_program(padded, inputs, 90)
            bare = run_program(erased(padded, 0), inputs, 90)
            ends = program_ends(padded)
            self.assertEqual(seen(ORDER, 0, ends, record), seen(ORDER, 0, ends, bare))
            self.assertEqual(len(seen(ORDER, 0, ends, record)), 3)


if __name__ == "__main__":
    unittest.main()
