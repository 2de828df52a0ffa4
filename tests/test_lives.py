"""Promise [19]."""
import unittest

from lookalike.lives import diary, is_weave, relive
from lookalike.meaning import run_program
from lookalike.moments import acts_of, choices_made
from plain import Plain
from randomprograms import made_programs
from samples import ORDER, SMALL, with_block
from wrongvalues import NO_TUPLES, of_other_kinds, replaced

A, B, C = ("name", "a"), ("name", "b"), ("name", "c")


class DiaryTest(unittest.TestCase):
    def test_small(self):
        self.assertEqual([diary(SMALL, ((), (21,)), 0, ticks) for ticks in (0, 1, 2, 50)], [(), (5,), (5,), (5,)])
        self.assertEqual(diary(program=SMALL, inputs=((), ()), thread=0, ticks=20), (0,))

    def test_what_is_read(self):
        program = with_block(("take", "c", 0), ("put", "r", B, ("word", 4, 9)), ("out", 0, C), ("out", 0, ("at", "r", A)))
        self.assertEqual(diary(program, ((300,), ()), 0, 50), (44, 44, 9))

    def test_as_told_another_way(self):
        some = 0
        for maker, program in made_programs(200):
            inputs = maker.input(program[0])
            plain = Plain(program, inputs)
            plain.record(150)
            for thread in range(len(program[4])):
                self.assertEqual(diary(program, inputs, thread, 150), tuple(plain.read[thread]))
                some += len(plain.read[thread])
        self.assertGreater(some, 300)


class ReliveTest(unittest.TestCase):
    def test_each_deed(self):
        program = with_block(("take", "a", 0), ("set", "c", C), ("put", "r", ("word", 4, 8), ("at", "r", A)), ("out", 1, A))
        told = (("take", 0), None, ("box", 0), ("fill", 0, 44), None, None, ("cell", 0, 2), ("cells", 0, 2, 1), None,
                ("out", 1, 5), ("end",))
        self.assertEqual(relive(program=program, thread=0, diary=(21, 300, 17), slots=50), told)
        for slots in range(12):
            self.assertEqual(relive(program, 0, (21, 300, 17), slots), told[:slots])
        self.assertEqual(relive(program, 0, (21, 300, 17, 1, 1), 50), told)

    def test_words_that_lack(self):
        program = with_block(("take", "a", 0), ("out", 1, ("at", "r", A)))
        self.assertEqual(relive(program, 0, (), 9), ())
        self.assertEqual(relive(program, 0, (4,), 9), (("take", 0), None, None))
        self.assertEqual(relive(program, 0, (4, 3), 9), (("take", 0), None, None, ("cell", 0, 1), ("out", 1, 3), ("end",)))

    def test_words_that_are_too_great_are_put_on_as_they_are(self):
        self.assertEqual(relive(with_block(("out", 1, C)), 0, (1000,), 9), (("box", 0), ("out", 1, 1000), ("end",)))
        self.assertEqual(relive(with_block(("out", 1, ("op", "add", C, C))), 0, (1000, 1), 9)[3], ("out", 1, (1000 + 1) % 256))
        program = with_block(("if", C, (("out", 0, A),), ()))
        self.assertEqual(relive(program, 0, (256,), 9), (("box", 0), None, None, ("out", 0, 0), None, ("end",)))

    def test_choices_and_rounds_are_nothing(self):
        program = with_block(("while", C, (("skip", 1),)))
        self.assertEqual(relive(program, 0, (1, 0), 9), (("box", 0), None, None, None, ("box", 0), None, ("end",)))

    def test_runs(self):
        for maker, program in made_programs(150):
            inputs = maker.input(program[0])
            many = len(program[4])
            record = run_program(program, inputs, 150)
            for thread in range(many):
                slots = len(range(thread, 150, many))
                words = diary(program, inputs, thread, 150)
                life = relive(program, thread, words, slots)
                told = [(at * many + thread, ("end", thread) if deed == ("end",) else deed) for at, deed in enumerate(life)
                        if deed is not None and deed[0] in ("out", "end")]
                self.assertEqual(told, [pair for pair in record if pair[0] % many == thread])
                acts = acts_of(program, thread, choices_made(program, inputs, thread, 150))
                for act, deed in zip(acts, life):
                    outside = act[0] in ("box", "cell", "take", "fill", "cells", "out", "end")
                    self.assertEqual(act[0] if outside else None, deed[0] if deed else None)


class WeaveTest(unittest.TestCase):
    def setUp(self):
        one = ("t", (("a", None, 4),), (("take", "a", 0), ("set", "b", A), ("out", 0, B)))
        other = ("u", (), (("out", 0, B), ("out", 0, B), ("out", 0, B), ("out", 0, B)))
        self.program = (ORDER, (("b", None, 4, 1),), (), (), (one, other))
        self.weave = ((5, 5), (1, 1, 5, 5))

    def test_weave(self):
        inputs = ((21,), ())
        self.assertIs(is_weave(program=self.program, inputs=inputs, diaries=self.weave, ticks=40), True)
        self.assertIs(is_weave(self.program, inputs, self.weave, 14), True)
        self.assertIs(is_weave(self.program, inputs, self.weave, 13), False)
        self.assertIs(is_weave(self.program, ((5,), (1,)), self.weave, 40), True)
        self.assertIs(is_weave(self.program, ((4,), ()), self.weave, 40), False)
        self.assertIs(is_weave(self.program, inputs, ((), ()), 0), True)
        self.assertIs(is_weave(self.program, inputs, ((5,), ()), 1), True)

    def test_words_more_or_less_or_other_ones(self):
        for value in (((5,), (1, 1, 5, 5)), ((5, 5), (1, 1, 5)), ((5, 5, 0), (1, 1, 5, 5)), ((5, 5), (1, 1, 5, 5, 5)),
                      ((5, 4), (1, 1, 5, 5)), ((21, 5), (1, 1, 5, 5)), ((5, 5), (1, 5, 5, 5)), ((5, 5), (1, 1, 1, 5)),
                      ((5, 5), (17, 1, 5, 5)), ((), ()), ((1, 1, 5, 5), (5, 5))):
            self.assertIs(is_weave(self.program, ((21,), ()), value, 40), False, value)

    def test_wrong_values(self):
        for value in (*NO_TUPLES, *of_other_kinds(self.weave), (*self.weave, ()), self.weave[:1], (5, 5),
                      replaced(self.weave, (0, 0), None), replaced(self.weave, (0,), None), replaced(self.weave, (1, 0), (1,))):
            self.assertIs(is_weave(self.program, ((21,), ()), value, 40), False, value)

    def test_exactly_the_diaries_are_a_weave(self):
        for maker, program in made_programs(80):
            inputs = maker.input(program[0])
            weave = tuple(diary(program, inputs, thread, 60) for thread in range(len(program[4])))
            self.assertIs(is_weave(program, inputs, weave, 60), True)
            for thread, words in enumerate(weave):
                for wrong in (words + (0,), words[:-1], tuple(word + 1 for word in words)):
                    if wrong != words:
                        self.assertIs(is_weave(program, inputs, replaced(weave, (thread,), wrong), 60), False)


if __name__ == "__main__":
    unittest.main()
