"""Promises [11] and [14]."""
import unittest

from lookalike.errors import LookError
from lookalike.orders import order_of
from lookalike.programs import expression_width, is_program
from lookalike.programtexts import program_tokens
from lookalike.reading import read_program
from lookalike.words import OPS, WIDTHS
from randomprograms import made_programs
from samples import FULL, ORDER, SMALL, with_block, with_expression
from wrongvalues import NO_TUPLES, of_other_kinds, otherwise, replaced, same

RESERVED = "levels within box row function thread local if else while times out take skip".split()
A, B = ("name", "a"), ("name", "b")
FOUR = ("word", 4, 3)


def is_read_back(value):
    """Whether a value has tokens of which it is the program."""
    try:
        return same(read_program(" ".join(program_tokens(value))), value)
    except (LookError, TypeError, ValueError, IndexError, KeyError, AttributeError, RecursionError):
        return False


class IsProgramTest(unittest.TestCase):
    def right(self, value):
        self.assertIs(is_program(value), True, value)

    def wrong(self, value):
        self.assertIs(is_program(value), False, value)

    def test_samples(self):
        for program in (SMALL, FULL, with_block()):
            self.right(program)

    def test_made_ones(self):
        for _, program in made_programs(200):
            self.right(program)

    def test_no_programs(self):
        for value in (*NO_TUPLES, (), ("levels",), SMALL[:4], (*SMALL, ()), SMALL[4]):
            self.wrong(value)

    def test_parts_of_other_kinds(self):
        for program in (SMALL, FULL):
            for value in of_other_kinds(program):
                self.wrong(value)

    def test_other_parts(self):
        # A value is a program exactly if it has a text: reading knows nothing of how programs are checked.
        right = 0
        for program in (SMALL, FULL):
            for value in otherwise(program):
                told = is_program(value)
                self.assertIs(told, is_read_back(value), value)
                right += told
        self.assertGreater(right, 20)

    def test_orders_and_heads(self):
        for levels in (1, 12):
            self.right((order_of(levels, []), (), (), (), (("t", (), ()),)))
        self.wrong((((0, 1), (0, 1)), (), (), (), (("t", (), ()),)))
        self.wrong((ORDER, (), (), (), ()))
        for size in (1, 64):
            self.right((ORDER, (), (("r", (), 1, size),), (), (("t", (), ()),)))
        for size in (0, 65, -1, True, None, "1", 10 ** 40):
            self.wrong((ORDER, (), (("r", (), 1, size),), (), (("t", (), ()),)))
        for width in WIDTHS:
            self.right((ORDER, (("b", None, width, 2 ** width - 1),), (), (), (("t", (), ()),)))
            self.wrong((ORDER, (("b", None, width, 2 ** width),), (), (), (("t", (), ()),)))
        for width in (0, 3, 64, True, None, (1,), "4"):
            self.wrong((ORDER, (("b", None, width, 0),), (), (), (("t", (), ()),)))
        for lot in ((2,), (1, 0), (0, 0), [0], 0, (True,), "?", ("0",)):
            self.wrong((ORDER, (("b", lot, 4, 0),), (), (), (("t", (), ()),)))
            self.wrong((ORDER, (), (), (), (("t", (("a", lot, 4),), ()),)))

    def test_names(self):
        for name in ("a", "Z", "_", "a1", "add", "eq", "in", "x" * 40, "Levels", "if_", "local1"):
            self.right((ORDER, (), (), (), ((name, ((name, None, 4),), (("take", name, 0),)),)))
        for name in (*RESERVED, "", "1", "1a", "a b", "a-b", "\u00e4", "\u0661", "a\n", None, 1, b"a", ("a",)):
            self.wrong((ORDER, (), (), (), ((name, (), ()),)))
            self.wrong((ORDER, (), (), (), (("t", ((name, None, 4),), ()),)))
            self.wrong((ORDER, ((name, None, 4, 0),), (), (), (("t", (), ()),)))
            self.wrong((ORDER, (), ((name, None, 4, 1),), (), (("t", (), ()),)))
            self.wrong((ORDER, (), (), ((name, (), (), (), FOUR),), (("t", (), ()),)))

    def test_unlike_names(self):
        def program(box, row, function, thread, param, own):
            return (ORDER, ((box, None, 4, 0),), ((row, None, 4, 1),),
                    ((function, ((param, None, 4),), ((own, None, 4),), (), FOUR),), ((thread, ((own, None, 4),), ()),))
        self.right(program("b", "r", "f", "t", "p", "o"))
        self.right(program("b", "r", "f", "t", "f", "t"))
        self.right(program("b", "r", "f", "t", "t", "f"))
        for names in (("b", "b", "f", "t", "p", "o"), ("b", "r", "b", "t", "p", "o"), ("b", "r", "f", "b", "p", "o"),
                      ("b", "r", "r", "t", "p", "o"), ("b", "r", "f", "r", "p", "o"), ("b", "r", "f", "f", "p", "o"),
                      ("b", "r", "f", "t", "o", "o"), ("b", "r", "f", "t", "b", "o"), ("b", "r", "f", "t", "r", "o"),
                      ("b", "r", "f", "t", "p", "b"), ("b", "r", "f", "t", "p", "r")):
            self.wrong(program(*names))
        self.wrong((ORDER, (), (), (), (("t", (), ()), ("t", (), ()))))
        self.wrong((ORDER, (), (), (), (("t", (("a", None, 4), ("a", None, 4)), ()),)))
        self.right((ORDER, (), (), (), (("t", (("a", None, 4),), ()), ("u", (("a", None, 8),), ()))))

    def test_calls_of_functions_ahead_only(self):
        def program(one, other):
            return (ORDER, (), (), (("f", (), (), (), one), ("g", (), (), (), other)), (("t", (), ()),))
        call_f, call_g = ("call", "f", ()), ("call", "g", ())
        self.right(program(FOUR, call_f))
        self.wrong(program(call_g, FOUR))
        self.wrong(program(call_f, FOUR))
        self.wrong(program(FOUR, call_g))
        self.wrong(program(FOUR, ("call", "t", ())))
        self.right((ORDER, (), (), (("f", (), (), (("out", 0, FOUR),), FOUR),), (("t", (), (("out", 0, call_f),)),)))
        self.wrong((ORDER, (), (), (("f", (), (), (("out", 0, call_f),), FOUR),), (("t", (), ()),)))

    def test_statements(self):
        for statement in (("set", "a", FOUR), ("set", "c", ("word", 8, 255)), ("put", "r", B, A), ("if", A, (), ()),
                          ("while", B, ()), ("times", 0, ()), ("times", 64, ()), ("out", 1, B), ("take", "a", 0),
                          ("take", "c", 1), ("skip", 0), ("skip", 10 ** 3999), ("put", "r", ("word", 32, 9), A)):
            self.right(with_block(statement))
            self.right(with_block(("if", A, (statement,), (statement, statement)), ("while", A, (statement,))))
            self.right(with_block(("times", 2, (statement,))))
        for statement in (("set", "a", B), ("set", "r", A), ("set", "f", A), ("set", "t", A), ("set", "z", A),
                          ("set", "x", A), ("put", "r", A, B), ("put", "a", A, A), ("put", "r", A), ("set", "a", A, A),
                          ("times", 65, ()), ("times", -1, ()), ("times", True, ()), ("times", None, ()), ("times", A, ()),
                          ("out", 2, A), ("out", -1, A), ("out", False, A), ("out", A, 0), ("take", "r", 0),
                          ("take", "a", 2), ("take", "a", True), ("take", 0, "a"), ("skip", -1), ("skip", True),
                          ("skip", None), ("skip",), ("skip", 1, 1), ("if", A, ()), ("if", A, (), (), ()), ("while", A),
                          ("if", A, None, ()), ("if", A, (), None), ("while", A, ["skip"]), ("times", 1, None),
                          ("word", 4, 3), ("nothing", A), ("end",), ("rest",), (), None, "skip", 1, ("if", (), (), ()),
                          (None, A), (["set"], "a", FOUR), ("set", ["a"], FOUR), ("set", "a", None), ["skip", 1],
                          ("skip", (1,)), (("skip", 1),), ("choose", (), ()), ("test", A, ())):
            self.wrong(with_block(statement))
            self.wrong(with_block(("if", A, (), (("times", 1, (statement,)),))))

    def test_expressions(self):
        for expression in (FOUR, A, B, ("name", "c"), ("at", "r", A), ("at", "r", ("word", 32, 5)),
                           ("call", "f", (A, B)), ("call", "f", (("call", "f", (FOUR, B)), ("word", 1, 1))),
                           *[("op", op, A, FOUR) for op in OPS]):
            self.right(with_expression(expression))
            self.right(with_expression(("at", "r", ("op", "and", expression, expression))))
            self.right(with_block(("if", expression, (), ()), ("while", expression, ())))
        for expression in (("word", 4, 16), ("word", 4, -1), ("word", 3, 1), ("word", True, 1), ("word", 4, True),
                           ("word", 4), ("word", 4, 1, 1), ("word", 4, None), ("name", "r"), ("name", "f"), ("name", "t"),
                           ("name", "z"), ("name", "x"), ("name",), ("name", "a", "a"), ("name", None), ("name", ["a"]),
                           ("name", ("a",)), ("at", "a", A), ("at", "z", A), ("at", "r"), ("at", "r", A, A),
                           ("at", "r", None), ("at", ["r"], A), ("op", "add", A, B), ("op", "eq", A, B),
                           ("op", "plus", A, A), ("op", "add", A), ("op", "add", A, A, A), ("op", None, A, A),
                           ("op", ["add"], A, A), ("op", "add", A, None), ("op", "add", None, A), ("call", "f", ()),
                           ("call", "f", (A,)), ("call", "f", (A, B, B)), ("call", "f", (B, A)), ("call", "f", [A, B]),
                           ("call", "f", A), ("call", "z", ()), ("call", "a", ()), ("call", "f"), ("call", ["f"], ()),
                           ("call", "f", (A, None)), ("call", "f", (A, ("op", "add", B, A))), ("set", "a", A), (), None, 3,
                           "a", ("skip", 1), [*A], (A,), ("local", 0), ("push", 4, 1)):
            self.wrong(with_expression(expression))
            self.wrong(with_expression(("op", "lt", expression, expression)))
            self.wrong(with_expression(("at", "r", expression)))
            self.wrong(with_block(("if", expression, (), ())))

    def test_results(self):
        def program(result):
            return (ORDER, (("b", None, 8, 0),), (), (("f", (("p", None, 4),), (("l", None, 2),), (), result),),
                    (("t", (("o", None, 4),), ()),))
        for result in (("name", "p"), ("name", "l"), ("name", "b"), FOUR):
            self.right(program(result))
        for result in (("name", "o"), ("name", "f"), ("call", "f", (FOUR,)), (), None, ("skip", 1), (("name", "p"),)):
            self.wrong(program(result))

    def test_deep_ones(self):
        expression = A
        block = ()
        for _ in range(90):
            expression = ("op", "add", expression, FOUR)
        for _ in range(45):
            block = (("while", A, block),)
        self.right(with_expression(expression))
        self.right(with_block(*block))
        deep = ()
        for _ in range(150):
            deep = (deep,)
        self.wrong(deep)
        self.wrong(with_expression(deep))
        self.wrong(with_block(deep))
        self.wrong(replaced(FULL, (0,), deep))


class ExpressionWidthTest(unittest.TestCase):
    def test_example(self):
        self.assertEqual(expression_width(SMALL, "t", ("op", "lt", ("name", "b"), ("name", "b"))), 1)

    def test_each_kind(self):
        for expression, width in ((("word", 16, 5), 16), (A, 4), (("name", "f"), 1), (("name", "b"), 8),
                                  (("at", "r", ("name", "b")), 4), (("call", "g", ()), 4),
                                  (("call", "f", (A, ("name", "f"))), 4), (("op", "eq", A, A), 1),
                                  (("op", "xor", ("op", "lt", A, A), ("name", "f")), 1),
                                  (("op", "shl", ("name", "b"), ("name", "b")), 8)):
            self.assertEqual(expression_width(program=FULL, owner="t", expression=expression), width)

    def test_owners(self):
        self.assertEqual(expression_width(FULL, "f", ("name", "a")), 4)
        self.assertEqual(expression_width(FULL, "f", ("name", "c")), 1)
        self.assertEqual(expression_width(FULL, "g", ("call", "f", (FOUR, ("word", 1, 1)))), 4)
        self.assertEqual(expression_width(FULL, "u", ("name", "c2")), 1)
        program = (ORDER, (), (), (), (("t", (("a", None, 4),), ()), ("u", (("a", None, 32),), ())))
        self.assertEqual([expression_width(program, owner, A) for owner in ("t", "u")], [4, 32])


if __name__ == "__main__":
    unittest.main()
