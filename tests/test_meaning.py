"""Promises [16] and [17]."""
import copy
import unittest

from lookalike.meaning import advance_program, run_program, start_program, step_program
from lookalike.records import is_record
from plain import Plain
from randomprograms import made_programs
from samples import ORDER, SMALL, with_block
from wrongvalues import same

A, B, C = ("name", "a"), ("name", "b"), ("name", "c")


def outs(*block, inputs=((), ()), ticks=400):
    """The words that a thread with this block puts out."""
    return [deed[2] for _, deed in run_program(with_block(*block), inputs, ticks) if deed[0] == "out"]


class StartTest(unittest.TestCase):
    def test_start(self):
        state = start_program(program=SMALL, inputs=((), (7, 8)))
        self.assertEqual(state[:4], (0, (3,), (), ((), (7, 8))))
        self.assertEqual(state[4], (((("", ("take", 1, 4)), ("", ("keep", 0)), *[("t", at) for at in SMALL[4][0][2][1:]]),
                                     (), (0,)),))

    def test_rows(self):
        program = (ORDER, (), (("r", None, 4, 64), ("q", (0,), 1, 1)), (), (("t", (), ()), ("u", (("a", None, 2),), ())))
        self.assertEqual(start_program(program, ((), ())), (0, (), ((0,) * 64, (0,)), ((), ()), (((), (), ()), ((), (), (0,)))))


class StepTest(unittest.TestCase):
    def test_ends(self):
        program = (((0,),), (), (), (), (("t", (), ()), ("u", (), (("skip", 1),))))
        state = start_program(program, ((4,),))
        told = []
        for _ in range(6):
            state, deeds = step_program(program=program, state=state)
            told.append(deeds)
        self.assertEqual(told, [(("end", 0),), (), (), (("end", 1),), (), ()])
        self.assertEqual(state, (6, (), (), ((4,),), (None, None)))

    def test_steps_are_runs(self):
        for maker, program in made_programs(60):
            state = start_program(program, maker.input(program[0]))
            first = state
            kept = copy.deepcopy(state)
            record = []
            for tick in range(80):
                before = state
                state, deeds = step_program(program, state)
                self.assertLessEqual(len(deeds), 1)
                self.assertEqual(state[0], tick + 1)
                record += [(tick, deed) for deed in deeds]
                for thread, deed in enumerate(before[4]):
                    if ("end", thread) in deeds:
                        self.assertEqual((deed[0], deed[1], state[4][thread]), ((), (), None))
            told = advance_program(program, first, 80)
            self.assertTrue(same(told, (state, tuple(record))))
            self.assertTrue(same(first, kept))


class RunTest(unittest.TestCase):
    def test_examples(self):
        thread = ("t", (("a", None, 4),), (("take", "a", 0), ("if", A, (("out", 0, A),), ())))
        program = (((0,),), (), (), (), (thread, ("u", (), ())))
        self.assertEqual(run_program(program, ((5,),), 15), ((1, ("end", 1)), (10, ("out", 0, 5)), (14, ("end", 0))))
        self.assertEqual(run_program(program, ((),), 15), ((1, ("end", 1)), (10, ("end", 0))))

    def test_as_told_another_way(self):
        some = 0
        for maker, program in made_programs(300):
            inputs = maker.input(program[0])
            ticks = maker.random.choice([0, 1, 60, 300])
            record = run_program(program=program, inputs=inputs, ticks=ticks)
            self.assertEqual(record, Plain(program, inputs).record(ticks))
            self.assertTrue(is_record(program[0], record))
            some += len(record)
        self.assertGreater(some, 300)

    def test_cut_and_put_together(self):
        for maker, program in made_programs(100):
            state = start_program(program, maker.input(program[0]))
            whole = advance_program(program=program, state=state, ticks=120)
            for cut in (0, 1, maker.random.randint(2, 119), 120):
                middle, one = advance_program(program, state, cut)
                end, other = advance_program(program, middle, 120 - cut)
                self.assertTrue(same((end, one + other), whole))
                self.assertEqual(one, tuple(pair for pair in whole[1] if pair[0] < cut))

    def test_no_ticks(self):
        state = start_program(SMALL, ((), (1,)))
        self.assertEqual(advance_program(SMALL, state, 0), (state, ()))
        self.assertEqual(run_program(SMALL, ((), (1,)), 0), ())

    def test_many_ticks(self):
        state, record = advance_program(SMALL, start_program(SMALL, ((), (1,))), 1000000)
        self.assertEqual((state[0], state[4], record[-1]), (1000000, (None,), (11, ("end", 0))))

    def test_words_are_wrapped(self):
        self.assertEqual(outs(("take", "a", 0), ("out", 1, A), inputs=((300, 1), ())), [12])
        self.assertEqual(outs(("take", "c", 0), ("out", 1, C), inputs=((300, 1), ())), [44])
        self.assertEqual(outs(("take", "b", 1), ("out", 1, B), inputs=((), (10 ** 40,))), [0])
        self.assertEqual(outs(("set", "a", ("op", "add", ("word", 4, 15), ("word", 4, 2))), ("out", 0, A)), [1])

    def test_streams_run_out(self):
        take = (("take", "a", 0), ("out", 0, A))
        self.assertEqual(outs(*take, *take, *take, *take, inputs=((3, 17), ())), [3, 1, 0, 0])
        state = advance_program(with_block(*take), start_program(with_block(*take), ((3, 17), (5,))), 9)[0]
        self.assertEqual(state[3], ((17,), (5,)))

    def test_indexes_beyond_the_size(self):
        put = [("put", "r", ("word", 8, 200 + k), ("word", 4, k + 1)) for k in range(3)]
        self.assertEqual(outs(*put, *[("out", 0, ("at", "r", ("word", 4, k))) for k in range(6)]), [2, 3, 1, 2, 3, 1])
        self.assertEqual(outs(("put", "r", ("word", 2, 3), ("word", 4, 9)), ("out", 0, ("at", "r", ("word", 1, 0)))), [9])

    def test_order_of_args_and_operands(self):
        function = ("f", (("x", None, 4), ("y", None, 4)), (("z", None, 4),), (("set", "z", ("op", "sub", ("name", "x"), ("name", "y"))),),
                    ("name", "z"))
        call = ("call", "f", (("word", 4, 9), ("word", 4, 2)))
        thread = ("t", (), (("out", 0, call), ("out", 0, ("call", "f", (call, call)))))
        program = (ORDER, (), (), (function,), (thread,))
        self.assertEqual([deed for _, deed in run_program(program, ((), ()), 100)], [("out", 0, 7), ("out", 0, 0), ("end", 0)])

    def test_locals_of_functions_begin_anew(self):
        function = ("f", (), (("z", None, 4),), (("set", "z", ("op", "add", ("name", "z"), ("word", 4, 1))),), ("name", "z"))
        thread = ("t", (), (("out", 0, ("call", "f", ())), ("out", 0, ("call", "f", ()))))
        program = (ORDER, (), (), (function,), (thread,))
        self.assertEqual([deed for _, deed in run_program(program, ((), ()), 100)], [("out", 0, 1), ("out", 0, 1), ("end", 0)])

    def test_threads_share_boxes_but_no_locals(self):
        one = ("t", (("a", None, 4),), (("skip", 2), ("set", "b", ("name", "a")), ("out", 0, ("name", "b"))))
        other = ("u", (("a", None, 4),), (("set", "b", ("word", 4, 6)), ("set", "a", ("word", 4, 1)), ("out", 0, ("name", "b"))))
        program = (ORDER, (("b", None, 4, 9),), (), (), (one, other))
        self.assertEqual(run_program(program, ((), ()), 30), (
            (10, ("out", 0, 0)), (11, ("out", 0, 0)), (12, ("end", 0)), (13, ("end", 1))))

    def test_rounds(self):
        count = ("set", "a", ("op", "sub", A, ("word", 4, 1)))
        self.assertEqual(outs(("set", "a", ("word", 4, 3)), ("while", A, (("out", 0, A), count)), ("out", 1, ("word", 8, 77))),
                         [3, 2, 1, 77])
        self.assertEqual(outs(("while", A, (("out", 0, A),)), ("out", 1, ("word", 8, 77))), [77])
        self.assertEqual(outs(("times", 3, (("times", 2, (("out", 0, A),)),)), ("times", 0, (("out", 0, A),))), [0] * 6)

    def test_slots(self):
        def end(*block):
            return run_program(with_block(*block), ((), ()), 300)[-1]
        skip = ("skip", 4)
        for block, slot in (([], 0), ([skip], 4), ([("set", "a", A)], 2), ([("put", "r", A, A)], 3), ([("take", "a", 0)], 2),
                            ([("set", "a", ("at", "r", A))], 3), ([("if", A, (skip,), ())], 3), ([("if", A, (), (skip,))], 7),
                            ([("while", A, (skip,))], 2), ([("times", 5, (skip, skip))], 40),
                            ([("set", "a", ("call", "f", (A, B)))], 6), ([("times", 64, ())], 0),
                            ([("while", A, (skip,)), ("set", "a", ("op", "add", A, A))], 6)):
            self.assertEqual(end(*block), (slot, ("end", 0)))


if __name__ == "__main__":
    unittest.main()
