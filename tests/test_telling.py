"""Promises [72] and [73]."""
import itertools
import random
import unittest

from lookalike.groups import parting_levels
from lookalike.orders import order_of
from lookalike.telling import row_classes, telling_row, wish_classes
from lookalike.watched import watched
from plainwatch import plain_run, small_images
from test_checker import one_thread
from test_wishes import row_wish

END = ("end",)
EXAMPLE = (order_of(2, [(0, 1)]), (), (), (((2,), (
    ("take", 1, 2), ("keep", 0), ("local", 0), ("push", 2, 1), ("op", "and", 2), ("out", 0), ("take", 0, 1), ("local", 0), ("op", "and", 2), ("out", 0),
    ("end",))),))
SECRETS = ((0,), (1,), (2,), (3,))
# A secret of two bits: its high bit is shown, then the one of two bits which is asked for: 0 the low one, 1 whether both are alike.
HALVES = one_thread(
    ("take", 1, 4), ("keep", 0), ("local", 0), ("push", 4, 3), ("op", "shr", 4), ("out", 0), ("take", 0, 2), ("keep", 1),
    ("local", 0), ("local", 1), ("op", "shr", 4), ("push", 4, 1), ("op", "and", 4), ("out", 0), END, widths=(4, 2))


def plain_seen(image, ends, level, wish, secret, ticks):
    left = list(secret)
    return plain_run(image, ends, level, lambda told, is_seen: wish(told) if is_seen else left.pop(0) if left else 0, ticks)


def plain_classes(things):
    return tuple(tuple(number for number, other in enumerate(things) if other == thing)
                 for index, thing in enumerate(things) if thing not in things[:index])


class ExampleTest(unittest.TestCase):
    def test_example(self):
        order = order_of(2, [(0, 1)])
        code = (("take", 1, 2), ("keep", 0), ("local", 0), ("push", 2, 1), ("op", "and", 2), ("out", 0), ("take", 0, 1), ("local", 0), ("op", "and", 2), ("out", 0), ("end",))
        image = (order, (), (), (((2,), code),))
        secrets = ((0,), (1,), (2,), (3,))
        self.assertEqual((row_classes(image, ((),), 0, (0,), secrets, 20), row_classes(image, ((),), 0, (1,), secrets, 20)),
                         (((0, 2), (1, 3)), ((0, 2), (1, 3))))
        self.assertEqual((parting_levels(image, ((),), 200), telling_row(image, ((),), 0, (0,), (1,), 20), telling_row(image, ((),), 0, (0,), (2,), 20)),
                         ((0,), (), None))


class ClassTest(unittest.TestCase):
    def test_rows(self):
        secrets = tuple((number,) for number in range(16))
        for row, shift in (((0,), 0), ((1,), 1), ((2,), 2), ((3,), 3), ((), 0), ((5,), 1), ((2, 9, 9), 2)):
            told = row_classes(image=HALVES, ends=((),), level=0, row=row, secrets=secrets, ticks=30)
            signs = [(number >> 3, number >> shift & 1) for number in range(16)]
            self.assertEqual(told, plain_classes(signs))
            for index in (0, shift):
                self.assertEqual(wish_classes(image=HALVES, ends=((),), level=0, wish=row_wish(row), secrets=secrets, ticks=30), told, index)

    def test_edges(self):
        for secrets, told in (((), ()), (((),), ((0,),)), (((0,), ()), ((0, 1),)), (((8,), (0,), (8, 1)), ((0, 2), (1,))),
                              (((24,), (8,), (16,)), ((0, 1), (2,))), (((), (9,), (), (1,)), ((0, 2), (1,), (3,)))):
            self.assertEqual(row_classes(HALVES, ((),), 0, (0,), secrets, 30), told)
            self.assertEqual(wish_classes(HALVES, ((),), 0, row_wish((0,)), secrets, 30), told)
        # No tick, and just the ticks that show something.
        for ticks, told in ((0, ((0, 1, 2),)), (5, ((0, 1, 2),)), (6, ((0, 1), (2,))), (13, ((0, 1), (2,))), (14, ((0,), (1,), (2,)))):
            self.assertEqual(row_classes(HALVES, ((),), 0, (), ((0,), (1,), (8,)), ticks), told)
            self.assertEqual(wish_classes(HALVES, ((),), 0, row_wish(()), ((0,), (1,), (8,)), ticks), told)

    def test_rows_with_fewer_words(self):
        image = one_thread(("take", 1, 1), ("keep", 0), ("take", 0, 1), ("local", 0), ("op", "and", 1), ("out", 0), ("jump", 2), widths=(1,))
        for row, ticks, told in (((), 40, ((0, 1),)), ((0, 0), 40, ((0, 1),)), ((0, 0, 1), 40, ((0,), (1,))), ((0, 0, 1), 15, ((0, 1),)),
                                 ((1,), 7, ((0,), (1,))), ((2, 16), 40, ((0, 1),)), ((3,), 40, ((0,), (1,)))):
            self.assertEqual(row_classes(image, ((),), 0, row, ((0,), (1,)), ticks), told, (row, ticks))

    def test_a_wish_tells_more_at_once_than_any_row(self):
        # The first sight halves four secrets; one question parts the first half, another one the second half.
        code = [("take", 1, 4), ("keep", 0), ("local", 0), ("push", 4, 3), ("op", "shr", 4), ("out", 0), ("take", 0, 1), ("local", 0), ("push", 4, 3),
                ("op", "shr", 4), ("op", "xor", 1), ("local", 0), ("op", "and", 1), ("out", 0), END]
        # What is shown last: the low bit, if the question is not the high bit.
        image = one_thread(*code, widths=(4,))
        secrets = ((0,), (1,), (8,), (9,))
        classes = [row_classes(image, ((),), 0, (word,), secrets, 30) for word in range(2)]
        self.assertEqual(classes, [((0, 1), (2,), (3,)), ((0,), (1,), (2, 3))])
        wish = lambda told: 1 - told[0][1][2]
        self.assertEqual(wish_classes(image, ((),), 0, wish, secrets, 30), ((0,), (1,), (2,), (3,)))

    def test_made_ones(self):
        found = {}
        for maker, image, ends, _ in small_images(60, 60):
            for level in range(len(image[0])):
                secrets = tuple(tuple(maker.random.choice([0, 1, 2, 3, 18]) for _ in range(maker.random.randint(0, 3))) for _ in range(6))
                row = tuple(maker.random.randrange(20) for _ in range(maker.random.randint(0, 5)))
                words = [maker.random.randrange(20) for _ in range(99)]
                wish = lambda told: words[sum(tick + sight[-1] for tick, sight in told) % 99]
                before = None
                for ticks in (0, 5, 20, 60):
                    told = row_classes(image, ends, level, row, secrets, ticks)
                    self.assertEqual(told, plain_classes([plain_seen(image, ends, level, row_wish(row), secret, ticks) for secret in secrets]))
                    wished = wish_classes(image, ends, level, wish, secrets, ticks)
                    self.assertEqual(wished, plain_classes([plain_seen(image, ends, level, wish, secret, ticks) for secret in secrets]))
                    # With more ticks each class lies within one of those with fewer.
                    for ones, others in zip((told, wished), before or ()):
                        self.assertTrue(all(any(set(one) <= set(other) for other in others) for one in ones))
                    before = (told, wished)
                if watched(image, ends, level, 1000)[0] == "sees":
                    self.assertEqual(before, ((tuple(range(6)),),) * 2)
                found[len(told)] = found.get(len(told), 0) + 1
        self.assertGreater(len(found), 2)


class RowTest(unittest.TestCase):
    def test_small(self):
        for one, other, told in (((0,), (8,), ()), ((1,), (9,), ()), ((0,), (1,), (0,)), ((1,), (3,), (1,)), ((2,), (6,), (2,)), ((3,), (7,), (2,)),
                                 ((5,), (5,), None), ((0,), (), None), ((16,), (0,), None), ((17,), (0,), (0,)), ((8,), (9, 4), (0,))):
            self.assertEqual(telling_row(image=HALVES, ends=((),), level=0, one=one, other=other, ticks=30), told, (one, other))
        # Two rows tell 0 from 3: any is right.
        self.assertIn(telling_row(HALVES, ((),), 0, (0,), (3,), 30), ((0,), (1,)))
        for ticks in range(20):
            self.assertEqual(telling_row(HALVES, ((),), 0, (0,), (8,), ticks), () if ticks > 5 else None)
            self.assertEqual(telling_row(HALVES, ((),), 0, (0,), (4,), ticks), (2,) if ticks > 13 else None)
        # Who takes the secret himself is told nothing by it.
        self.assertIsNone(telling_row(HALVES, ((),), 1, (0,), (8,), 30))

    def test_no_number(self):
        image = one_thread(("take", 1, 1), ("out", 0), ("take", 0, 1), END)
        self.assertEqual(telling_row(image, ((),), 0, (0,), (1,), 30), ())
        # A take that one run comes to, and the other one not yet: it is an unlike sight itself.
        image = one_thread(("take", 1, 1), ("else", 3), ("rest",), ("take", 0, 4), END)
        self.assertEqual(telling_row(image, ((),), 0, (0,), (1,), 30), ())
        self.assertIsNone(telling_row(image, ((),), 0, (0,), (1,), 2))
        self.assertEqual(telling_row(image, ((),), 0, (0,), (1,), 3), ())

    def test_many_numbers(self):
        # Four words have to be right one after another.
        code = [("take", 1, 4), ("keep", 0)]
        for word in (9, 3, 15, 0):
            code += [("take", 0, 4), ("push", 4, word), ("op", "eq", 4), ("else", 30)]
        code += [("local", 0), ("out", 0)] + [("rest",)] * 10 + [("rest",), END]
        image = one_thread(*code, widths=(4,))
        self.assertEqual(telling_row(image, ((),), 0, (4,), (5,), 100), (9, 3, 15, 0))
        self.assertIsNone(telling_row(image, ((),), 0, (4,), (4, 1), 100))
        # Rounds without end.
        image = one_thread(("take", 0, 4), ("take", 1, 4), ("op", "add", 4), ("keep", 0), ("jump", 0), widths=(4,))
        self.assertIsNone(telling_row(image, ((),), 0, (1, 2, 3), (3, 2, 1), 1000000))

    def test_takes_of_unlike_widths(self):
        code = (("take", 1, 1), ("else", 4), ("take", 0, 1), ("jump", 6), ("take", 0, 2), ("jump", 6), ("keep", 0), ("local", 0), ("out", 0), END)
        image = one_thread(*code, widths=(2,))
        for one, other in (((0,), (1,)), ((1,), (0,))):
            row = telling_row(image, ((),), 0, one, other, 20)
            self.assertIn(row, ((2,), (3,)))
            self.assertEqual(row_classes(image, ((),), 0, row, (one, other), 20), ((0,), (1,)))
        self.assertIsNone(telling_row(image, ((),), 0, (3,), (1,), 20))

    def test_secrets_that_are_kept_for_ever(self):
        # States that are never the same, and never look unlike, come again and again.
        image = one_thread(("take", 1, 4), ("keep", 0), ("take", 0, 2), ("out", 0), ("jump", 2), widths=(4,))
        self.assertIsNone(telling_row(image, ((),), 0, (3,), (4,), 1000000))

    def check(self, image, ends, level, one, other, ticks, takes):
        """Hold a row against all rows of bits, no run having more takes than so many that are seen."""
        row = telling_row(image, ends, level, one, other, ticks)
        best = None
        for words in itertools.product(range(2), repeat=takes):
            records = [plain_seen(image, ends, level, row_wish(words), secret, ticks) for secret in (one, other)]
            if records[0] != records[1]:
                first = min(set(records[0]) ^ set(records[1]))[0]
                best = first if best is None else min(best, first)
        if row is None:
            self.assertIsNone(best)
            return None
        self.assertTrue(row.__class__ is tuple and all(0 <= word < 16 for word in row))
        behind = [[plain_seen(image, ends, level, row_wish(row), secret, many) for secret in (one, other)] for many in (best, best + 1)]
        self.assertEqual(*behind[0])
        self.assertNotEqual(*behind[1])
        self.assertEqual(len(row), len([pair for pair in behind[0][0] if pair[1][0] == "take"]))
        self.assertEqual(len(row_classes(image, ends, level, row, (one, other), best + 1)), 2)
        return len(row)

    def test_made_ones(self):
        found = {}
        for seed in range(90):
            choose = random.Random(seed)
            image = asking_image(choose)
            for _ in range(2):
                one, other = [tuple(choose.choice([0, 1]) for _ in range(choose.randint(1, 3))) for _ in range(2)]
                ticks = choose.choice([40, 40, choose.randint(0, 30)])
                kind = self.check(image, ((),), 0, one, other, ticks, 5)
                found[kind] = found.get(kind, 0) + 1
                # No wish tells what no row tells, and some wish what some row tells.
                words = [choose.randrange(2) for _ in range(99)]
                wish = lambda told: words[sum(tick + sight[-1] for tick, sight in told) % 99]
                if kind is None:
                    self.assertEqual(wish_classes(image, ((),), 0, wish, (one, other), ticks), ((0, 1),))
                else:
                    row = telling_row(image, ((),), 0, one, other, ticks)
                    self.assertEqual(wish_classes(image, ((),), 0, row_wish(row), (one, other), ticks), ((0,), (1,)))
        for kind in (None, 0, 1, 2):
            self.assertGreater(found.get(kind, 0), 5, kind)

    def test_other_images(self):
        for maker, image, ends, _ in small_images(15, 60, most_width=1, depth=2):
            for level in range(len(image[0])):
                one, other = [tuple(maker.random.choice([0, 1]) for _ in range(maker.random.randint(0, 4))) for _ in range(2)]
                self.check(image, ends, level, one, other, 14, 6)


def asking_image(choose):
    """An image that takes secrets, and at most five bits that are seen, and shows what comes of both."""
    code, asked = [("take", 1, 1), ("keep", 0)], 0
    while len(code) < 36:
        kind = choose.choices(["ask", "secret", "mix", "out", "choice"], (4, 1, 6, 6, 1))[0]
        if kind == "ask" and asked < 5:
            code += [("take", 0, 1), *choose.choice([[], [("local", 1), ("op", choose.choice(["xor", "xor", "and"]), 1)]]), ("keep", 1)]
            asked += 1
        elif kind == "secret":
            code += [("take", 1, 1), ("local", 0), ("op", "xor", 1), ("keep", 0)]
        elif kind == "mix":
            code += [("local", 0), ("local", 1), ("op", choose.choice(["and", "lt"]), 1), ("keep", 2)]
        elif kind == "out":
            code += [("local", choose.choice([0, *[1, 2, 2] * 4])), ("out", 0)]
        elif kind == "choice" and choose.random() < 0.4:
            code += [("local", choose.choice([1, 2])), ("else", len(code) + 3), ("rest",)]
    return one_thread(*code, END, widths=(1, 1, 1))


if __name__ == "__main__":
    unittest.main()
