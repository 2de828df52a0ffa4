"""Promise [10]."""
import random
import unittest

from lookalike.tokens import token_places, tokens_of


class TokensTest(unittest.TestCase):
    def test_examples(self):
        self.assertEqual(tokens_of("a=3:4; # so\n->"), ("a", "=", "3", ":", "4", ";", "->"))
        self.assertEqual(token_places("a =3"), (0, 2, 3))

    def check(self, text, *tokens):
        self.assertEqual(tokens_of(text), tokens, text)
        places = token_places(text)
        self.assertEqual(len(places), len(tokens))
        for place, token in zip(places, tokens):
            self.assertEqual(text[place:place + len(token)], token)

    def test_texts(self):
        self.check("")
        self.check(" \n \n")
        self.check("a1_Z[0]", "a1_Z", "[", "0", "]")
        self.check("3a_ 007", "3a_", "007")
        self.check("(((", "(", "(", "(")
        self.check("->-> - > >-", "->", "->", "-", ">", ">", "-")
        self.check("-->>", "-", "->", ">")
        self.check("a->b", "a", "->", "b")
        self.check("a-b", "a", "-", "b")

    def test_remarks(self):
        self.check("#")
        self.check("# a b")
        self.check("a # b", "a")
        self.check("a# b\nc#", "a", "c")
        self.check("a#x\nb##y # z\n#\nc", "a", "b", "c")
        self.check("-#\n>", "-", ">")
        self.check("#\n\n#a\r\nb", "b")

    def test_other_signs(self):
        self.check("\t\r", "\t", "\r")
        self.check("a\tb\x00", "a", "\t", "b", "\x00")
        self.check("\u00e4\u00df\u0661\u00b2", "\u00e4", "\u00df", "\u0661", "\u00b2")
        self.check('."\'\\', ".", '"', "'", "\\")
        self.check("a\u00a0b", "a", "\u00a0", "b")

    def test_made_ones(self):
        chance = random.Random(1)
        for _ in range(500):
            text = "".join(chance.choice("ab_9 \n#->=()\t") for _ in range(chance.randint(0, 30)))
            tokens = tokens_of(text)
            self.assertEqual(tokens_of(" ".join(tokens)) if "#" not in tokens else tokens, tokens)
            self.assertEqual(len(tokens), len(token_places(text)))
            places = token_places(text)
            self.assertEqual(list(places), sorted(set(places)))
            left = "".join(line.split("#")[0] for line in text.split("\n")).replace(" ", "")
            self.assertEqual("".join(tokens), left)

    def test_long_text(self):
        self.check("(" * 20000, *"(" * 20000)
        self.check("a" * 20000, "a" * 20000)


if __name__ == "__main__":
    unittest.main()
