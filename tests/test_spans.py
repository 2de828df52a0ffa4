"""Promises [30] and [31]."""
import unittest

from lookalike.meaning import run_program
from lookalike.moments import acts_of
from lookalike.parts import placed_statements
from lookalike.sides import timed_ifs
from lookalike.spans import block_span, expression_span, thread_spans, told_time
from randomprograms import made_programs
from samples import FULL, ORDER, with_block
from ways import Ways, all_blocks, all_expressions, statement_at

A, B, FOUR = ("name", "a"), ("name", "b"), ("word", 4, 3)
DOUBLE = ("f", (("a", None, 4),), (("c", None, 4),), (("set", "c", ("op", "add", A, A)),), ("name", "c"))
ONE = ("if", B, (("set", "b", ("call", "f", (B,))),), (("skip", 3),))
THREAD = ("t", (("b", None, 4),), (
    ("take", "b", 0), ONE, ("while", B, (("set", "b", ("word", 4, 0)),)), ("out", 0, B)))
EXAMPLE = (((0,),), (), (), (DOUBLE,), (THREAD,))


def plain_span(program, part):
    """The span of an expression, a statement or a block."""
    if part == () or isinstance(part[0], tuple):
        return added([plain_span(program, statement) for statement in part])
    word = part[0]
    if word in ("word", "name"):
        return (1, 1)
    if word in ("at", "op", "set", "put", "out"):
        return added([plain_span(program, inner) for inner in part if isinstance(inner, tuple)] + [(1, 1)])
    if word == "call":
        _, params, places, block, result = [function for function in program[3] if function[0] == part[1]][0]
        own = len(params) + len(places) * 2
        return added([plain_span(program, arg) for arg in part[2]] + [(own, own), plain_span(program, block),
                                                                      plain_span(program, result)])
    if word == "take":
        return (2, 2)
    if word == "skip":
        return (part[1], part[1])
    if word == "times":
        return added([plain_span(program, part[2])] * part[1])
    ahead = plain_span(program, part[1])
    if word == "while":
        return (ahead[0] + 1, None)
    sides = [plain_span(program, part[2]), plain_span(program, part[3])]
    greatest = None if None in (sides[0][1], sides[1][1]) else max(sides[0][1], sides[1][1])
    return added([ahead, (2, 2), (min(sides[0][0], sides[1][0]), greatest)])


def added(spans):
    most = None if any(span[1] is None for span in spans) else sum(span[1] for span in spans)
    return (sum(span[0] for span in spans), most)


class SpanTest(unittest.TestCase):
    def test_example(self):
        self.assertEqual((expression_span(EXAMPLE, ONE[1]), block_span(EXAMPLE, (ONE,)), told_time(EXAMPLE, ONE[2]),
                          thread_spans(EXAMPLE)), ((1, 1), (6, 13), 10, ((13, None),)))

    def test_arguments_by_name(self):
        self.assertEqual(expression_span(program=EXAMPLE, expression=FOUR), (1, 1))
        self.assertEqual(block_span(program=EXAMPLE, block=()), (0, 0))
        self.assertEqual(told_time(program=EXAMPLE, block=()), 0)
        self.assertEqual(thread_spans(program=EXAMPLE), ((13, None),))

    def test_each_part(self):
        program = with_block()
        for expression, many in ((FOUR, 1), (A, 1), (("name", "c"), 1), (("at", "r", A), 2), (("op", "add", A, FOUR), 3),
                                 (("call", "f", (A, B)), 5), (("call", "f", (("op", "mul", A, A), B)), 7)):
            self.assertEqual(expression_span(program, expression), (many, many))
        for statement, span in ((("set", "a", FOUR), (2, 2)), (("set", "c", ("name", "c")), (2, 2)),
                                (("put", "r", A, FOUR), (3, 3)), (("out", 0, A), (2, 2)), (("take", "c", 1), (2, 2)),
                                (("skip", 7), (7, 7)), (("skip", 0), (0, 0)), (("if", A, (), ()), (3, 3)),
                                (("if", A, (("skip", 4),), (("skip", 1),)), (4, 7)), (("while", A, (("skip", 4),)), (2, None)),
                                (("while", ("op", "eq", A, FOUR), ()), (4, None)), (("times", 3, (("skip", 4),)), (12, 12)),
                                (("times", 0, (("skip", 4),)), (0, 0)),
                                (("times", 5, (("if", A, (("skip", 4),), ()),)), (15, 35))):
            self.assertEqual(block_span(program, (statement,)), span, statement)
            self.assertEqual(block_span(program, (statement, ("skip", 1), statement)),
                             (2 * span[0] + 1, None if span[1] is None else 2 * span[1] + 1))

    def test_params_and_locals(self):
        function = ("f", (("x", None, 4), ("y", None, 4)), (("z", None, 1), ("w", None, 1), ("v", None, 1)), (("skip", 10),), A)
        other = ("g", (), (), (("set", "b", ("call", "f", (FOUR, FOUR))),), ("call", "f", (FOUR, FOUR)))
        program = (ORDER, (("a", (), 4, 0), ("b", (), 4, 0)), (), (function, other), (("t", (), ()),))
        self.assertEqual(expression_span(program, ("call", "f", (A, A))), (21, 21))
        self.assertEqual(expression_span(program, ("call", "g", ())), (43, 43))

    def test_rounds_without_end(self):
        loop = ("while", A, ())
        function = ("h", (), (), (("if", ("word", 1, 1), (loop,), ()),), FOUR)
        program = (ORDER, (("a", None, 4, 0),), (), (function,), (("t", (), ()), ("u", (), (loop, ("skip", 2)))))
        call = ("call", "h", ())
        self.assertEqual(expression_span(program, call), (4, None))
        self.assertEqual(thread_spans(program), ((1, 1), (5, None)))
        self.assertIsNone(told_time(program, (loop,)))
        for nothing in (("times", 0, (loop,)), ("times", 0, (("set", "a", call),)), ("times", 9, (("times", 0, (loop,)),))):
            self.assertEqual(block_span(program, (nothing,)), (0, 0))
            self.assertEqual(told_time(program, (nothing, ("skip", 2))), 2)
        self.assertEqual(block_span(program, (("times", 2, (loop,)),)), (4, None))
        self.assertEqual(block_span(program, (("times", 2, (("times", 2, (loop,)),)),)), (8, None))
        self.assertIsNone(told_time(program, (("times", 2, (("set", "a", call),)),)))

    def test_told_times(self):
        even = ("if", A, (("set", "a", FOUR),), (("skip", 2),))
        self.assertEqual(told_time(with_block(), (even, ("skip", 3))), 8)
        self.assertIsNone(told_time(with_block(), (("if", A, (("skip", 2),), (("skip", 3),)),)))
        self.assertEqual(told_time(with_block(), (("times", 0, (("if", A, (("skip", 2),), ()),)),)), 0)

    def test_as_told_another_way(self):
        told = 0
        for _, program in made_programs(200):
            for _, _, block in all_blocks(program):
                span = block_span(program, block)
                self.assertEqual(span, plain_span(program, block))
                told += span[0] == span[1]
                self.assertEqual(told_time(program, block), span[0] if span[0] == span[1] else None)
            for expression in all_expressions(program):
                self.assertEqual(expression_span(program, expression), plain_span(program, expression))
            spans = [plain_span(program, thread[2]) for thread in program[4]]
            self.assertEqual(thread_spans(program), tuple(added([span, (1, 1)]) for span in spans))
        self.assertGreater(told, 300)

    def test_spans_are_of_all_ways(self):
        some = 0
        for _, program in made_programs(150, rounds=False):
            for _, _, block in all_blocks(program):
                least, most = block_span(program, block)
                if most < 120:
                    slots = Ways(program, 120).block(block, {0}, None)
                    self.assertEqual((least, most), (min(slots), max(slots)))
                    some += least < most
        self.assertGreater(some, 20)

    def test_a_most_lacks_exactly_if_a_way_comes_to_a_while(self):
        for _, program in made_programs(100):
            for name, place in timed_ifs(program):
                block = [part for owner, at, part in all_blocks(program) if (owner, at) == (name, ())][0]
                statement = statement_at(block, place)
                self.assertIsNotNone(block_span(program, statement[2])[1])
                self.assertIsNotNone(block_span(program, statement[3])[1])


class RunsTest(unittest.TestCase):
    def test_threads_take_as_many_slots_as_told(self):
        some = 0
        for maker, program in made_programs(200):
            record = run_program(program, maker.input(program[0]), 600)
            ends = {deed[1]: tick for tick, deed in record if deed[0] == "end"}
            many = len(program[4])
            for thread, (least, most) in enumerate(thread_spans(program)):
                if thread in ends:
                    slots = ends[thread] // many + 1
                    self.assertTrue(least <= slots and (most is None or slots <= most))
                elif most is not None:
                    self.assertGreater(thread + (most - 1) * many, 599)
                time = told_time(program, program[4][thread][2])
                if time is not None and thread + time * many < 600:
                    self.assertEqual(ends[thread], thread + time * many)
                    some += time > 9
        self.assertGreater(some, 30)

    def test_any_choices(self):
        for maker, program in made_programs(100):
            for thread, (least, most) in enumerate(thread_spans(program)):
                choices = [maker.random.choice([0, 1]) for _ in range(60)]
                acts = acts_of(program, thread, choices)
                if acts[-1] == ("end",):
                    self.assertTrue(least <= len(acts) and (most is None or len(acts) <= most))


class LargeTest(unittest.TestCase):
    def test_rounds_within_one_another(self):
        for inner, span in (((), (0, 0)), ((("skip", 0),), (0, 0)), ((("skip", 1),), (1, 1)), ((("while", A, ()),), (2, None))):
            block = inner
            for _ in range(50):
                block = (("times", 64, block),)
            most = None if span[1] is None else span[1] * 64 ** 50
            self.assertEqual(block_span(with_block(), block), (span[0] * 64 ** 50, most))

    def test_functions_that_call_functions(self):
        functions = [("f0", (), (), (), FOUR)]
        for number in range(1, 20):
            call = ("call", f"f{number - 1}", ())
            functions.append((f"f{number}", (), (), (("set", "a", call),) * 399, call))
        program = (ORDER, (("a", (), 4, 0),), (), tuple(functions), (("t", (), ()),))
        slots = 1
        for _ in range(19):
            slots = 400 * slots + 399
        self.assertEqual(expression_span(program, ("call", "f19", ())), (slots, slots))

    def test_large_rests(self):
        many = 10 ** 3999
        block = (("if", A, (("skip", many),), (("skip", 1),)),)
        self.assertEqual(block_span(with_block(), block), (4, many + 3))
        self.assertEqual(thread_spans(with_block(*block)), ((5, many + 4),))

    def test_full(self):
        self.assertEqual(thread_spans(FULL), (added([plain_span(FULL, FULL[4][0][2]), (1, 1)]), (1, 1)))
        self.assertEqual(len(placed_statements(FULL[4][0][2])), 12)


if __name__ == "__main__":
    unittest.main()
