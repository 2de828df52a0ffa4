"""Promises [69] and [70]."""
import itertools
import unittest

from lookalike.bare import bare_states
from lookalike.code import is_image
from lookalike.errors import Refused
from lookalike.groups import joined_image, parting_levels
from lookalike.leastpapers import is_harmless, least_paper
from lookalike.orders import is_order, lot_within, order_of
from lookalike.papers import end_lots
from lookalike.watched import watched
from evenimages import repaired_image
from plainwatch import PlainPairs, plain_run, small_images
from test_checker import one_thread

CHAIN = order_of(3, [(0, 1), (1, 2)])
APART = order_of(3, [])
END = ("end",)


def in_turn(image, ends, level, words):
    """What the level sees of a run whose takes tell these words, one after another."""
    left = iter(words)
    return plain_run(image, ends, level, lambda told, is_seen: next(left), len(words))


class ExampleTest(unittest.TestCase):
    def test_example(self):
        order = order_of(2, [(0, 1)])
        code = (("take", 1, 2), ("keep", 0), ("local", 0), ("push", 2, 1), ("op", "and", 2), ("out", 0), ("take", 0, 1), ("local", 0), ("op", "and", 2), ("out", 0), ("end",))
        image = (order, (), (), (((2,), code),))
        self.assertEqual(parting_levels(image, ((),), 200), (0,))


class JoinedTest(unittest.TestCase):
    def test_lots(self):
        image = one_thread(("take", 1, 1), ("out", 2), END, order=CHAIN)
        for lot, told in (((), (3,)), ((0,), (0, 3)), ((1,), (0, 1, 3)), ((2,), (0, 1, 2, 3)), ((0, 1), (0, 1, 3)), ((0, 1, 2), (0, 1, 2, 3))):
            self.assertEqual(joined_image(image=image, lot=lot), ((*CHAIN, told), *image[1:]))
        image = one_thread(END, order=APART)
        for many in range(4):
            for lot in itertools.combinations(range(3), many):
                self.assertEqual(joined_image(image, lot)[0], (*APART, (*lot, 3)))

    def test_eleven_levels(self):
        order = order_of(11, [(0, 5), (5, 10), (3, 4)])
        image = one_thread(END, order=order)
        self.assertEqual(joined_image(image, (4, 10))[0], (*order, (0, 3, 4, 5, 10, 11)))
        self.assertEqual(joined_image(image, tuple(range(11)))[0], (*order, tuple(range(12))))
        self.assertEqual(joined_image(image, ())[0], (*order, (11,)))
        self.assertTrue(is_image(joined_image(image, (2, 4))))

    def test_twice(self):
        image = one_thread(END, order=APART)
        self.assertEqual(joined_image(joined_image(image, (0, 1)), (2, 3))[0], (*APART, (0, 1, 3), (0, 1, 2, 3, 4)))

    def test_who_sees_what(self):
        # Whoever sits there sees what any of them sees, and the elder levels see what they saw.
        for maker, image, ends, _ in small_images(30, 60):
            lot = maker.lot()
            joined = joined_image(image, lot)
            self.assertTrue(is_order(joined[0]) and is_image(joined))
            new = len(image[0])
            words = [maker.random.randrange(4) for _ in range(80)]
            runs = {level: in_turn(joined, ends, level, words) for level in range(new + 1)}
            for level in range(new):
                self.assertEqual(in_turn(image, ends, level, words), runs[level])
            for tick, sight in sorted({pair for level in lot for pair in runs[level]}):
                self.assertIn((tick, sight), runs[new])
            for tick, sight in runs[new]:
                if sight[0] != "end":
                    self.assertTrue(any((tick, sight) in runs[level] for level in lot))
                else:
                    self.assertTrue(lot_within(joined[0], ends[sight[1]], new))


class PartingTest(unittest.TestCase):
    def test_levels(self):
        image = one_thread(("take", 1, 1), ("out", 0), ("take", 2, 1), ("out", 1), END, order=CHAIN)
        self.assertEqual(parting_levels(image=image, ends=((),), most=100), (0, 1))
        image = one_thread(("take", 2, 1), ("out", 1), END, order=CHAIN)
        self.assertEqual(parting_levels(image, ((),), 100), (1,))
        image = one_thread(("take", 0, 1), ("out", 1), END, order=CHAIN)
        self.assertEqual(parting_levels(image, ((),), 100), ())
        image = one_thread(("take", 0, 1), ("out", 1), END, order=APART)
        self.assertEqual(parting_levels(image, ((),), 100), (1,))

    def test_refused(self):
        image = one_thread(("take", 1, 2), END, order=CHAIN)
        many = len(bare_states(image, 100))
        for most in range(many + 3):
            if most >= many:
                self.assertEqual(parting_levels(image, ((),), most), ())
            else:
                with self.assertRaises(Refused) as caught:
                    parting_levels(image, ((),), most)
                self.assertEqual(caught.exception.at, most)

    def test_made_ones(self):
        found = {}
        for _, image, ends, states in small_images(80, 60, most_width=1, depth=2):
            told = tuple(level for level in range(len(image[0])) if PlainPairs(image, ends, level, states).parts() is not None)
            self.assertEqual(parting_levels(image, ends, len(states)), told)
            self.assertEqual(told, tuple(level for level in range(len(image[0])) if watched(image, ends, level, 1000)[0] == "parts"))
            found[told != ()] = found.get(told != (), 0) + 1
        self.assertGreater(min(found.values()), 15)

    def test_checked_papers(self):
        # If a paper is checked, no two runs part, whoever watches; but it may be empty where no paper is checked.
        checked = harmless = 0
        for maker, image, _, _ in small_images(60, 80, most_width=1, depth=2):
            image = repaired_image(image)
            ends = end_lots(least_paper(image))
            try:
                told = parting_levels(image, ends, 400)
            except Refused:
                continue
            self.assertEqual(told, ())
            checked += 1
        for _, image, _, _ in small_images(60, 60, most_width=1, depth=2):
            if not is_harmless(image):
                harmless += parting_levels(image, end_lots(least_paper(image)), 400) == ()
        self.assertGreater(checked, 30)
        self.assertGreater(harmless, 3)
        # A secret less itself.
        image = one_thread(("take", 1, 1), ("keep", 0), ("local", 0), ("local", 0), ("op", "sub", 1), ("out", 0), END, widths=(1,), order=CHAIN)
        self.assertFalse(is_harmless(image))
        self.assertEqual(parting_levels(image, ((),), 100), ())


class TogetherTest(unittest.TestCase):
    def test_watchers_together(self):
        # If for none of them two runs part, none do for all together, if each end that is seen is seen by one of them.
        empty = 0
        for maker, image, ends, _ in small_images(60, 60, most_width=1, depth=2):
            levels = range(len(image[0]))
            parting = parting_levels(image, ends, 100)
            for lot in [lot for many in levels for lot in itertools.combinations(levels, many)] + [tuple(levels)]:
                joined = joined_image(image, lot)
                new = parting_levels(joined, ends, 100)
                self.assertEqual(new[:len(parting)], parting)
                self.assertLessEqual(set(new) - set(parting), {len(levels)})
                sees = [end for end in ends if lot_within(joined[0], end, len(levels))]
                if all(any(lot_within(image[0], end, level) for level in lot) for end in sees) and not set(lot) & set(parting):
                    self.assertEqual(new, parting)
                    empty += 1
        self.assertGreater(empty, 60)

    def test_an_end_that_none_of_them_sees(self):
        # The lot of the end is within the new level, but within none of the elder ones.
        image = one_thread(("take", 2, 1), ("else", 3), ("rest",), END, order=APART)
        ends = ((0, 1),)
        self.assertEqual(parting_levels(image, ends, 100), ())
        self.assertEqual(parting_levels(joined_image(image, (0, 1)), ends, 100), (3,))
        self.assertEqual(parting_levels(joined_image(image, (0, 1, 2)), ends, 100), ())

    def test_the_other_way_round(self):
        # What one of them is not to know another one may know.
        image = one_thread(("take", 1, 1), ("out", 0), END, order=APART)
        self.assertEqual(parting_levels(image, ((),), 100), (0,))
        self.assertEqual(parting_levels(joined_image(image, (0, 1)), ((),), 100), (0,))
        self.assertEqual(parting_levels(joined_image(image, (0, 2)), ((),), 100), (0, 3))


if __name__ == "__main__":
    unittest.main()
