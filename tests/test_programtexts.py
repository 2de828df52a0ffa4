"""Promise [12]."""
import unittest

from lookalike.orders import order_of
from lookalike.programtexts import program_text, program_tokens
from lookalike.tokens import tokens_of
from randomprograms import made_programs
from samples import FULL, FULL_TEXT, SMALL, SMALL_TOKENS, with_block, with_expression


class WritingTest(unittest.TestCase):
    def test_example(self):
        self.assertEqual(" ".join(program_tokens(SMALL)), SMALL_TOKENS)

    def test_each_kind(self):
        self.assertEqual(program_tokens(FULL), tokens_of(FULL_TEXT))
        self.assertIsInstance(program_tokens(FULL), tuple)

    def test_least_program(self):
        self.assertEqual(" ".join(program_tokens((((0,),), (), (), (), (("t", (), ()),)))),
                         "levels 1 within 0 { 0 } thread t { }")

    def test_twelve_levels(self):
        program = (order_of(12, [(11, 10)]), (), (), (), (("t", (), ()),))
        self.assertIn("within 10 { 10 11 } within 11 { 11 }", " ".join(program_tokens(program)))

    def test_else_stands_only_before_what_is_there(self):
        def told(*block):
            return " ".join(program_tokens(with_block(*block))).split("local b : 1 ? ")[1]
        skip = ("skip", 1)
        self.assertEqual(told(("if", ("name", "a"), (), ())), "if a { } }")
        self.assertEqual(told(("if", ("name", "a"), (), (skip,))), "if a { } else { skip 1 ; } }")
        self.assertEqual(told(("if", ("name", "a"), (skip,), ())), "if a { skip 1 ; } }")

    def test_long_numerals(self):
        for number in (10 ** 999, 10 ** 1000 - 1):
            self.assertIn(str(number), program_tokens(with_block(("skip", number))))

    def test_texts_have_the_tokens(self):
        self.assertEqual(tokens_of(program_text(FULL)), program_tokens(FULL))
        for _, program in made_programs(150):
            self.assertEqual(tokens_of(program_text(program)), program_tokens(program=program))

    def test_deep_ones(self):
        expression = ("name", "a")
        for _ in range(5000):
            expression = ("op", "add", expression, ("word", 4, 1))
        self.assertEqual(program_tokens(with_expression(expression)).count("("), 5001)


if __name__ == "__main__":
    unittest.main()
