"""Promises [5] and [6]."""
import itertools
import random
import unittest

from lookalike.errors import InvalidOrder
from lookalike.orders import (
    covered, is_lot, is_order, joined_lots, lot_within, order_of, ring_of, watchers,
)
from wrongvalues import NO_NUMBERS, NO_TUPLES, of_other_kinds, same

DIAMOND = ((0,), (0, 1), (0, 2), (0, 1, 2, 3))


def all_orders(levels):
    """All orders with so many levels, by trying all."""
    choices = []
    for level in range(levels):
        others = [low for low in range(levels) if low != level]
        choices.append([tuple(sorted((level, *some))) for many in range(levels)
                        for some in itertools.combinations(others, many)])
    return [order for order in itertools.product(*choices) if is_plainly_order(order)]


def is_plainly_order(order):
    levels = range(len(order))
    for low, middle in itertools.product(levels, repeat=2):
        if low != middle and low in order[middle] and middle in order[low]:
            return False
        if low in order[middle] and not set(order[low]) <= set(order[middle]):
            return False
    return all(level in order[level] for level in levels)


def lots_of(order):
    return [lot for many in range(len(order) + 1) for lot in itertools.combinations(range(len(order)), many)]


class IsOrderTest(unittest.TestCase):
    def test_right_ones(self):
        for order in (DIAMOND, ((0,),), ((0,), (1,)), ((0, 1), (1,)), tuple((k,) for k in range(12)),
                      tuple(tuple(range(k + 1)) for k in range(12))):
            self.assertIs(is_order(order), True)

    def test_there_are_as_many_as_by_trying_all(self):
        for levels, many in ((1, 1), (2, 3), (3, 19), (4, 219)):
            self.assertEqual(len(all_orders(levels)), many)
            self.assertTrue(all(is_order(order) for order in all_orders(levels)))

    def test_all_small_values(self):
        right = {order for levels in (1, 2, 3) for order in all_orders(levels)}
        parts = [(), (0,), (1,), (2,), (0, 1), (1, 0), (0, 2), (1, 2), (0, 1, 2), (0, 0), (3,)]
        for many in range(4):
            for value in itertools.product(parts, repeat=many):
                self.assertIs(is_order(value), value in right, value)

    def test_wrong_ones(self):
        for value in (*NO_TUPLES, (), *of_other_kinds(DIAMOND), tuple((k,) for k in range(13)),
                      ((0, 1), (0, 1)), ((0,), (0, 1), (1, 2)), ((0, 1),), ((True,),), ((0, 1), (0, 2), (1, 2))):
            self.assertIs(is_order(value), False, value)


class OrderOfTest(unittest.TestCase):
    def test_examples(self):
        order = order_of(4, [(0, 1), (0, 2), (1, 3), (2, 3)])
        self.assertEqual(order, DIAMOND)
        self.assertEqual(ring_of(3, [(0, 1), (1, 2), (2, 0)]), (0, 1, 2))
        self.assertEqual(watchers(order, (1, 2)), (3,))
        self.assertIs(covered(order, (3,), (1, 2)), True)
        self.assertIs(covered(order, (0,), (1,)), True)

    def test_edges(self):
        self.assertEqual(order_of(1, []), ((0,),))
        self.assertEqual(order_of(1, ((0, 0), (0, 0))), ((0,),))
        self.assertEqual(order_of(12, [(k + 1, k) for k in range(11)]), tuple(tuple(range(k, 12)) for k in range(12)))
        self.assertEqual(order_of(12, ()), tuple((k,) for k in range(12)))
        self.assertEqual(order_of(levels=2, pairs=((1, 1), (1, 0), (1, 0))), ((0, 1), (1,)))

    def test_fewest_relations(self):
        for order in all_orders(4):
            pairs = [(low, high) for high in range(4) for low in order[high]]
            self.assertTrue(same(order_of(4, pairs), order))
            for few in itertools.islice(itertools.combinations(pairs, 4), 60):
                made = order_of(4, few)
                self.assertTrue(is_order(made))
                self.assertTrue(all(set(made[k]) <= set(order[k]) for k in range(4)))
                self.assertTrue(all(low in made[high] for low, high in few))

    def check_error(self, levels, pairs, at):
        for ask in (order_of, ring_of):
            if ask is ring_of and at == 2:
                continue
            with self.assertRaises(InvalidOrder) as caught:
                ask(levels, pairs)
            self.assertEqual(caught.exception.at, at)

    def test_wrong_levels(self):
        for levels in (*NO_NUMBERS, 0, 13, 10 ** 30, -3):
            self.check_error(levels, [], 0)
            self.check_error(levels, None, 0)

    def test_wrong_pairs(self):
        for pairs in (None, "", "ab", 1, {}, {(0, 1)}, iter([]), [None], [0], [[0, 1]], [(0,)], [(0, 1, 1)], [(0, 2)],
                      [(-1, 0)], [(True, 0)], [(0, False)], [(0, "1")], ((0, 1), (1, 1.0)), [(0, 1), (1, 0), ()]):
            self.check_error(2, pairs, 1)

    def test_rings(self):
        for pairs in ([(0, 1), (1, 0)], ((2, 1), (1, 0), (0, 2)), [(0, 0), (3, 1), (1, 3)]):
            self.check_error(4, pairs, 2)

    def test_there_is_an_order_exactly_if_there_is_no_ring(self):
        chance = random.Random(5)
        for _ in range(600):
            levels = chance.randint(1, 6)
            pairs = [(chance.randrange(levels), chance.randrange(levels)) for _ in range(chance.randint(0, 8))]
            kept = list(pairs)
            ring = ring_of(levels, pairs)
            if ring is None:
                self.assertTrue(is_order(order_of(levels, pairs)))
            else:
                self.check_error(levels, pairs, 2)
                self.assertIsInstance(ring, tuple)
                self.assertGreaterEqual(len(ring), 2)
                self.assertEqual(len(ring), len(set(ring)))
                for one, other in zip(ring, ring[1:] + ring[:1]):
                    self.assertIn((one, other), pairs)
            self.assertEqual(pairs, kept)

    def test_rings_of_one_level_are_none(self):
        self.assertIsNone(ring_of(1, [(0, 0)]))
        self.assertIsNone(ring_of(2, [(0, 0), (0, 1), (1, 1)]))
        self.assertIn(ring_of(2, [(0, 1), (1, 0)]), [(0, 1), (1, 0)])


class LotsTest(unittest.TestCase):
    def test_is_lot(self):
        for lot in ((), (0,), (3,), (0, 2), (0, 1, 2, 3)):
            self.assertIs(is_lot(DIAMOND, lot), True)
        for value in (*[value for value in NO_TUPLES], (4,), (1, 0), (1, 1), (-1,), (0, True), [0], (0, (1,)), ("0",)):
            self.assertIs(is_lot(DIAMOND, value), False, value)

    def test_lot_within(self):
        self.assertIs(lot_within(DIAMOND, (), 0), True)
        self.assertIs(lot_within(DIAMOND, (0, 1), 1), True)
        self.assertIs(lot_within(DIAMOND, (0, 2), 1), False)

    def test_joined_lots(self):
        self.assertEqual(joined_lots((0, 2), (1, 2, 3)), (0, 1, 2, 3))
        self.assertEqual(joined_lots((), ()), ())
        for one, other in itertools.product(lots_of(DIAMOND), repeat=2):
            both = joined_lots(one, other)
            self.assertTrue(is_lot(DIAMOND, both))
            for level in range(4):
                self.assertEqual(lot_within(DIAMOND, both, level),
                                 lot_within(DIAMOND, one, level) and lot_within(DIAMOND, other, level))

    def test_covered_and_watchers(self):
        for order in all_orders(3):
            for one in lots_of(order):
                seers = watchers(order, one)
                self.assertEqual(seers, tuple(level for level in range(3) if set(one) <= set(order[level])))
                for other in lots_of(order):
                    self.assertIs(covered(order, one, other), set(watchers(order, other)) <= set(seers))

    def test_lots_that_cover_each_other(self):
        self.assertIs(covered(DIAMOND, (3,), (1, 2)), True)
        self.assertIs(covered(DIAMOND, (1, 2), (3,)), True)
        self.assertEqual(watchers(DIAMOND, (3,)), watchers(DIAMOND, (1, 2)))
        self.assertIs(covered(DIAMOND, (1,), (2,)), False)
        # No level sees both, so whatever is covered by that.
        self.assertIs(covered(((0,), (1,)), (0,), (0, 1)), True)
        self.assertEqual(watchers(((0,), (1,)), (0, 1)), ())
        self.assertEqual(watchers(DIAMOND, ()), (0, 1, 2, 3))
        self.assertIs(covered(DIAMOND, (0,), ()), True)
        self.assertIs(covered(((0,), (1,)), (0,), ()), False)


if __name__ == "__main__":
    unittest.main()
