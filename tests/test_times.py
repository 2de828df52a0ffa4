"""Promises [32] and [33]."""
import itertools
import unittest

from lookalike.errors import InvalidQuestion
from lookalike.moments import acts_of
from lookalike.spans import block_span
from lookalike.times import begin_slots, block_times
from randomprograms import made_programs
from samples import ORDER, with_block
from test_spans import EXAMPLE, THREAD
from ways import Ways, all_blocks

A, FOUR = ("name", "a"), ("word", 4, 3)
CHOICE = ("if", A, (("skip", 3),), ())
LOOP = ("while", A, (("skip", 1),))


class BlockTimesTest(unittest.TestCase):
    def test_example(self):
        self.assertEqual(block_times(EXAMPLE, THREAD[2], 30), (12, 17, 19, 22, 24, 27, 29))

    def test_small(self):
        for block, times in (((), (0,)), ((("skip", 5),), (5,)), ((("skip", 21),), ()), ((("skip", 20),), (20,)),
                             ((CHOICE,), (3, 6)), ((CHOICE, CHOICE), (6, 9, 12)), ((("times", 3, (CHOICE,)),), (9, 12, 15, 18)),
                             ((("times", 0, (CHOICE, LOOP)),), (0,)), ((LOOP,), (2, 6, 10, 14, 18)),
                             ((("times", 2, (LOOP,)),), (4, 8, 12, 16, 20)),
                             ((("while", A, (CHOICE,)),), (2, 8, 11, 14, 17, 20)), ((("skip", 10 ** 3999),), ())):
            self.assertEqual(block_times(program=with_block(), block=block, most=20), times, block)

    def test_small_mosts(self):
        self.assertEqual([block_times(with_block(), (CHOICE,), most) for most in (0, 2, 3, 5, 6)], [(), (), (3,), (3,), (3, 6)])
        self.assertEqual([block_times(with_block(), (), most) for most in (0, 1)], [(0,), (0,)])
        self.assertEqual([block_times(with_block(), (("skip", 1),), most) for most in (0, 1)], [(), (1,)])

    def test_as_told_another_way(self):
        some = 0
        for maker, program in made_programs(150):
            most = maker.random.choice([0, 1, 7, 40, 120])
            for _, _, block in all_blocks(program):
                times = block_times(program, block, most)
                self.assertEqual(times, tuple(sorted(Ways(program, most).block(block, {0}, None))))
                some += len(times) > 3
        self.assertGreater(some, 80)

    def test_sums_of_statements(self):
        for _, program in made_programs(100):
            for _, _, block in all_blocks(program):
                sums = {0}
                for statement in block:
                    times = block_times(program, (statement,), 60)
                    sums = {one + other for one, other in itertools.product(sums, times) if one + other <= 60}
                self.assertEqual(block_times(program, block, 60), tuple(sorted(sums)))

    def test_spans(self):
        for _, program in made_programs(100):
            for _, _, block in all_blocks(program):
                least, most = block_span(program, block)
                times = block_times(program, block, 200)
                if least <= 200:
                    self.assertEqual(times[0], least)
                if most is None:
                    further = block_times(program, block, 2 * least + 1000)
                    self.assertTrue(further and further[-1] > 2 * least)
                elif most <= 200:
                    self.assertEqual(times[-1], most)

    def test_ways_of_choices(self):
        for maker, program in made_programs(100):
            for thread in range(len(program[4])):
                acts = acts_of(program, thread, [maker.random.choice([0, 1]) for _ in range(30)])
                if acts[-1] == ("end",) and len(acts) <= 200:
                    self.assertIn(len(acts) - 1, block_times(program, program[4][thread][2], 200))

    def test_large_ones(self):
        for inner, times in (((), (0,)), ((("skip", 0),), (0,)), ((("skip", 1),), ()), ((CHOICE,), ()), ((LOOP,), ())):
            block = inner
            for _ in range(50):
                block = (("times", 64, block),)
            self.assertEqual(block_times(with_block(), block, 200), times)
        block = (CHOICE,)
        for _ in range(50):
            block = (("times", 1, block), ("times", 64, ()))
        self.assertEqual(block_times(with_block(), block, 200), (3, 6))


class BeginSlotsTest(unittest.TestCase):
    def test_example(self):
        self.assertEqual((begin_slots(EXAMPLE, "t", (3,), 20), begin_slots(EXAMPLE, "t", (2, 0, 0), 20)),
                         ((10, 15, 17, 20), (10, 15, 17, 20)))

    def test_small(self):
        program = with_block(("skip", 2), CHOICE, ("if", A, (), (("skip", 1), LOOP)), ("times", 3, (CHOICE, ("skip", 1))),
                             ("times", 0, (CHOICE,)), LOOP)
        for place, slots in (((0,), (0,)), ((1,), (2,)), ((1, 0, 0), (4,)), ((2,), (5, 8)), ((2, 1, 0), (7, 10)),
                             ((2, 1, 1), (8, 11)), ((2, 1, 1, 0, 0), (10, 13, 14, 17, 18)), ((4, 0, 0), ())):
            self.assertEqual(begin_slots(program=program, name="t", place=place, most=20), slots, place)

    def test_rounds(self):
        program = with_block(("times", 3, (("skip", 2), CHOICE)), ("skip", 1))
        self.assertEqual(begin_slots(program, "t", (0,), 30), (0,))
        self.assertEqual(begin_slots(program, "t", (0, 0, 0), 30), (0, 5, 8, 10, 13, 16))
        self.assertEqual(begin_slots(program, "t", (0, 0, 1), 12), (2, 7, 10, 12))
        self.assertEqual(begin_slots(program, "t", (1,), 30), (15, 18, 21, 24))
        program = with_block(("skip", 1), ("while", A, (("skip", 2), CHOICE)), ("skip", 1))
        # Not anew behind its own rounds.
        self.assertEqual(begin_slots(program, "t", (1,), 30), (1,))
        self.assertEqual(begin_slots(program, "t", (1, 0, 0), 20), (3, 11, 14, 19))
        program = with_block(("times", 2, (LOOP,)))
        self.assertEqual(begin_slots(program, "t", (0, 0, 0), 12), (0, 2, 6, 10))
        program = with_block(("times", 2, (("skip", 0),)), ("while", A, (("while", A, ()),)))
        self.assertEqual(begin_slots(program, "t", (0, 0, 0), 12), (0,))
        self.assertEqual(begin_slots(program, "t", (1, 0, 0), 14), (2, 7, 10, 12, 13))

    def test_functions(self):
        function = ("f", (("x", None, 4),), (("y", None, 4),), (CHOICE, ("skip", 1)), A)
        program = (ORDER, (("a", None, 4, 0),), (), (function,), (("t", (), (("set", "a", ("call", "f", (FOUR,))), ("skip", 1))),))
        self.assertEqual(begin_slots(program, "f", (1,), 30), (3, 6))
        self.assertEqual(begin_slots(program, "t", (1,), 30), (10, 13))

    def test_as_told_another_way(self):
        some = 0
        for maker, program in made_programs(120):
            most = maker.random.choice([0, 5, 40, 90])
            for owner in program[3] + program[4]:
                block = owner[3] if len(owner) == 5 else owner[2]
                ways = Ways(program, most)
                ways.block(block, {0}, ())
                for name, place, inner in all_blocks(program):
                    for index in range(len(inner) if name == owner[0] else 0):
                        slots = begin_slots(program, name, (*place, index), most)
                        self.assertEqual(slots, tuple(sorted(ways.begins.get((*place, index), ()))))
                        some += len(slots) > 2
        self.assertGreater(some, 150)

    def test_outs_of_runs(self):
        """An out that a thread comes to shows its word the slots of its expression behind its beginning."""
        block = (("take", "a", 0), CHOICE, LOOP, ("out", 0, ("op", "add", A, A)), ("times", 2, (CHOICE,)))
        program = with_block(*block)
        begins = begin_slots(program, "t", (3,), 200)
        for choices in itertools.product((0, 1), repeat=6):
            acts = acts_of(program, 0, choices)
            if ("out", 0) in acts:
                self.assertIn(acts.index(("out", 0)) - 3, begins)

    def test_no_owner(self):
        program = with_block(("skip", 1))
        for name in (None, 0, True, "", "u", "a", "c", ("t",), ["t"], b"t", {}, "T", "t "):
            with self.assertRaises(InvalidQuestion) as caught:
                begin_slots(program, name, (0,), 9)
            self.assertEqual(caught.exception.at, 1)
            with self.assertRaises(InvalidQuestion) as caught:
                begin_slots(program, name, None, 9)
            self.assertEqual(caught.exception.at, 1)

    def test_no_place(self):
        program = with_block(("skip", 1), ("times", 1, (("skip", 1),)), CHOICE, LOOP)
        for place in (None, 0, True, "", (), (4,), (-1,), (True,), (0.0,), [0], (0, 0), (0, 0, 0), (1, 0), (1, 1, 0), (1, 0, 1),
                      (1, False, 0), (2, 1, 0), (2, 2, 0), (2, 0, 0, 0), (3, 1, 0), ((0,),), ("0",), (None,), {}, {0: 0},
                      [[]], ([],), (1, [], 0), (10 ** 50,)):
            with self.assertRaises(InvalidQuestion, msg=place) as caught:
                begin_slots(program, "t", place, 9)
            self.assertEqual(caught.exception.at, 2)
        for place in ((0,), (1,), (1, 0, 0), (2, 0, 0), (3, 0, 0)):
            begin_slots(program, "t", place, 9)

    def test_large_ones(self):
        block = (("skip", 1),)
        for _ in range(49):
            block = (("times", 64, ()), ("times", 64, block))
        self.assertEqual(begin_slots(with_block(*block), "t", (1, 0) * 49 + (0,), 200), tuple(range(201)))


if __name__ == "__main__":
    unittest.main()
