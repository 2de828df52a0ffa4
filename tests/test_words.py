"""Promise [7]."""
import itertools
import unittest

from lookalike.words import OPS, WIDTHS, is_word, op_width, word_op
from wrongvalues import NO_NUMBERS


def plain_op(op, width, one, other):
    """What the document says, bit by bit or by whole numbers."""
    bits = [(one >> k & 1, other >> k & 1) for k in range(width)]
    k = other % width
    return {
        "add": lambda: (one + other) % 2 ** width,
        "sub": lambda: (one - other) % 2 ** width,
        "mul": lambda: one * other % 2 ** width,
        "div": lambda: one // other if other else 0,
        "rem": lambda: one - one // other * other if other else one,
        "and": lambda: sum((a & b) << at for at, (a, b) in enumerate(bits)),
        "or": lambda: sum((a | b) << at for at, (a, b) in enumerate(bits)),
        "xor": lambda: sum((a ^ b) << at for at, (a, b) in enumerate(bits)),
        "shl": lambda: one * 2 ** k % 2 ** width,
        "shr": lambda: one // 2 ** k,
        "eq": lambda: 1 if one == other else 0,
        "lt": lambda: 1 if one < other else 0,
    }[op]()


class WordsTest(unittest.TestCase):
    def test_tuples(self):
        self.assertEqual(WIDTHS, (1, 2, 4, 8, 16, 32))
        self.assertEqual(OPS, ("add", "sub", "mul", "div", "rem", "and", "or", "xor", "shl", "shr", "eq", "lt"))

    def test_is_word(self):
        for width in WIDTHS:
            for value in (0, 1, 2 ** width - 1):
                self.assertIs(is_word(value, width), True)
            for value in (2 ** width, 10 ** 40, *NO_NUMBERS):
                self.assertIs(is_word(value, width), False)
            self.assertIs(is_word(value=1, width=width), True)

    def test_examples(self):
        self.assertEqual((word_op("sub", 4, 2, 5), word_op("shl", 4, 3, 6), word_op("div", 8, 7, 0)), (13, 12, 0))
        self.assertEqual((word_op("rem", 8, 7, 0), op_width("lt", 8)), (7, 1))

    def test_all_small_words(self):
        for op, width in itertools.product(OPS, (1, 2, 4)):
            for one, other in itertools.product(range(2 ** width), repeat=2):
                self.assertEqual(word_op(op, width, one, other), plain_op(op, width, one, other), (op, width))

    def test_great_words(self):
        for op, width in itertools.product(OPS, WIDTHS):
            top = 2 ** width - 1
            some = sorted({0, 1, 2 % (top + 1), width % (top + 1), (width + 1) % (top + 1), top // 2, top - 1, top})
            for one, other in itertools.product(some, repeat=2):
                told = word_op(op, width, one, other)
                self.assertEqual(told, plain_op(op, width, one, other), (op, width, one, other))
                self.assertTrue(is_word(told, op_width(op, width)))
                self.assertNotIsInstance(told, bool)

    def test_op_width(self):
        for op, width in itertools.product(OPS, WIDTHS):
            self.assertEqual(op_width(op, width), 1 if op in ("eq", "lt") else width)


if __name__ == "__main__":
    unittest.main()
