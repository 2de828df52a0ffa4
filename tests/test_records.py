"""Promises [8] and [9]."""
import random
import unittest

from lookalike.orders import order_of
from lookalike.records import alike_inputs, cut_record, is_input, is_record, seen
from wrongvalues import NO_TUPLES, of_other_kinds

DIAMOND = order_of(4, [(0, 1), (0, 2), (1, 3), (2, 3)])
RECORD = ((2, ("out", 2, 5)), (4, ("out", 0, 1)), (4, ("end", 0)), (7, ("end", 1)))


class InputsTest(unittest.TestCase):
    def test_is_input(self):
        for value in (((), (), (), ()), ((1, 0, 10 ** 50), (), (7,), ())):
            self.assertIs(is_input(DIAMOND, value), True)
        self.assertIs(is_input(((0,),), ((),)), True)

    def test_wrong_inputs(self):
        for value in (*NO_TUPLES, (), ((), (), ()), ((), (), (), (), ()), *of_other_kinds(((0, 1), (), (7,), ())),
                      ((None,), (), (), ()), (((1,),), (), (), ()), ("1", (), (), ())):
            self.assertIs(is_input(DIAMOND, value), False, value)

    def test_alike_inputs(self):
        one, other = ((1,), (2,), (3,), (4,)), ((1,), (2,), (0,), (4,))
        self.assertEqual([alike_inputs(DIAMOND, level, one, other) for level in range(4)], [True, True, False, False])
        self.assertIs(alike_inputs(DIAMOND, 0, ((1,), (), (), ()), ((1, 1), (), (), ())), False)

    def test_alike_for_what_is_within(self):
        chance = random.Random(2)
        for _ in range(300):
            one, other = [tuple(tuple(chance.randrange(2) for _ in range(chance.randrange(2))) for _ in range(4))
                          for _ in range(2)]
            for level in range(4):
                if alike_inputs(DIAMOND, level, one, other):
                    self.assertTrue(all(alike_inputs(DIAMOND, low, one, other) for low in DIAMOND[level]))


class RecordsTest(unittest.TestCase):
    def test_right_ones(self):
        for value in ((), RECORD, ((0, ("end", 99)),), ((0, ("out", 3, 10 ** 60)), (0, ("out", 3, 0))),
                      ((10 ** 9, ("end", 0)),)):
            self.assertIs(is_record(DIAMOND, value), True, value)

    def test_wrong_ones(self):
        for value in (*NO_TUPLES, *of_other_kinds(RECORD), (RECORD[3], RECORD[0]), ((1, ("out", 4, 0)),),
                      ((1, ("out", 0)),), ((1, ("out", 0, 0, 0)),), ((1, ("end", 0, 0)),), ((1, ("end",)),), ((1, ()),),
                      ((1, ("take", 0)),), ((1, ("end", 0), 0),), ((1,),), (("end", 0),), ((1, (1, 0)),)):
            self.assertIs(is_record(DIAMOND, value), False, value)

    def test_example(self):
        self.assertEqual(seen(DIAMOND, 1, ((0,), (3,)), RECORD), ((4, ("out", 0, 1)), (4, ("end", 0))))

    def test_seen(self):
        self.assertEqual(seen(DIAMOND, 3, ((0,), (1, 2)), RECORD), RECORD)
        self.assertEqual(seen(DIAMOND, 0, ((), ()), RECORD), RECORD[1:])
        self.assertEqual(seen(DIAMOND, 2, ((1,), (0, 2)), RECORD), (RECORD[0], RECORD[1], RECORD[3]))
        self.assertEqual(seen(order=DIAMOND, level=0, ends=(), record=()), ())

    def test_cut(self):
        self.assertEqual([len(cut_record(RECORD, tick)) for tick in range(9)], [0, 0, 0, 1, 1, 3, 3, 3, 4])
        self.assertEqual(cut_record(record=(), tick=5), ())

    def test_seeing_and_cutting(self):
        chance = random.Random(3)
        for _ in range(200):
            ticks = sorted(chance.randrange(9) for _ in range(6))
            record = tuple((tick, ("out", chance.randrange(4), 1) if chance.random() < 0.6 else
                            ("end", chance.randrange(3))) for tick in ticks)
            ends = tuple(chance.choice([(), (0,), (1,), (1, 2), (3,)]) for _ in range(3))
            for level in range(4):
                for tick in (0, 4, 9):
                    self.assertEqual(seen(DIAMOND, level, ends, cut_record(record, tick)),
                                     cut_record(seen(DIAMOND, level, ends, record), tick))
                for low in DIAMOND[level]:
                    self.assertEqual(seen(DIAMOND, low, ends, seen(DIAMOND, level, ends, record)),
                                     seen(DIAMOND, low, ends, record))


if __name__ == "__main__":
    unittest.main()
