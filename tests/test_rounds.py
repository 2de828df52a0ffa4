"""Promises [15] to [19] for rounds that have nothing to do, however many they are."""
import unittest

from lookalike.lives import diary, is_weave, relive
from lookalike.meaning import advance_program, run_program, start_program, step_program
from lookalike.moments import acts_of, choices_made
from lookalike.parts import has_slots
from plain import Plain
from randomprograms import made_programs
from samples import with_block

A, FOUR = ("name", "a"), ("word", 4, 3)
NO_WORDS = ((), ())
OUT = ("out", 0, FOUR)
NOTHINGS = ((), (("skip", 0),), (("times", 0, (OUT,)),), (("skip", 0), ("times", 0, (OUT,)), ("times", 64, ()), ("skip", 0)))


def rounds_within(block, many, times=64):
    """So many rounds within one another round a block."""
    for _ in range(many):
        block = (("times", times, block),)
    return block


def without_nothings(block):
    """The block without the statements that have nothing to do."""
    found = []
    for statement in block:
        # Expressions begin with a word, blocks do not.
        blocks = tuple(without_nothings(part) for part in statement
                       if isinstance(part, tuple) and (part == () or isinstance(part[0], tuple)))
        if statement[0] == "times" and (statement[1] == 0 or blocks == ((),)) or statement == ("skip", 0):
            continue
        found.append((*statement[:len(statement) - len(blocks)], *blocks))
    return tuple(found)


class RoundsTest(unittest.TestCase):
    def test_nothing_is_left_of_them(self):
        for nothing in NOTHINGS:
            for many in (0, 1, 2, 8, 50):
                program = with_block(*rounds_within(nothing, many))
                self.assertEqual(start_program(program, NO_WORDS)[4], (((), (), (0, 0, 0, 0)),))
                self.assertEqual(run_program(program, NO_WORDS, 3), ((0, ("end", 0)),))
                self.assertEqual(acts_of(program, 0, ()), (("end",),))
                self.assertEqual(relive(program, 0, (), 5), (("end",),))
                self.assertEqual(choices_made(program, NO_WORDS, 0, 5), ())
                self.assertEqual(diary(program, NO_WORDS, 0, 5), ())
                self.assertIs(is_weave(program, NO_WORDS, ((),), 5), True)

    def test_they_stand_where_they_stood_until_they_come_first(self):
        nothing = rounds_within((), 30)
        program = with_block(OUT, *nothing, ("skip", 1))
        state = start_program(program, NO_WORDS)
        self.assertEqual(state[4][0][0], (("", ("push", 4, 3)), ("", ("out", 0)), ("t", nothing[0]), ("t", ("skip", 1))))
        self.assertEqual(advance_program(program, state, 2)[0][4][0][0], (("", ("rest",)),))

    def test_beside_what_does_something(self):
        for nothing in NOTHINGS:
            nothing = rounds_within(nothing, 20)
            program = with_block(("times", 3, nothing + (OUT,) + nothing), *nothing, ("skip", 1))
            self.assertEqual(run_program(program, NO_WORDS, 20), (
                (1, ("out", 0, 3)), (3, ("out", 0, 3)), (5, ("out", 0, 3)), (7, ("end", 0))))

    def test_in_sides_and_rounds_and_functions(self):
        nothing = rounds_within((("skip", 0),), 20)
        side = ("if", ("word", 1, 1), nothing, nothing)
        self.assertEqual(acts_of(with_block(side), 0, (1,)), (("push", 1, 1), ("choose",), ("rest",), ("end",)))
        self.assertEqual(acts_of(with_block(side), 0, (0,)), (("push", 1, 1), ("choose",), ("rest",), ("end",)))
        loop = ("while", A, nothing)
        self.assertEqual(acts_of(with_block(loop), 0, (1, 0)), (
            ("local", 0), ("test",), ("again",), ("local", 0), ("test",), ("end",)))
        function = ("f", (), (), nothing, FOUR)
        program = (*with_block()[:3], (function,), (("t", (), (("out", 0, ("call", "f", ())),)),))
        self.assertEqual(run_program(program, NO_WORDS, 9), ((1, ("out", 0, 3)), (2, ("end", 0))))

    def test_rounds_that_do_something_deep_within(self):
        program = with_block(*rounds_within((("skip", 1),), 50))
        self.assertEqual(run_program(program, NO_WORDS, 2000), ())
        self.assertEqual(relive(program, 0, (), 300), (None,) * 300)
        program = with_block(*rounds_within((("skip", 1),), 50, times=1), OUT)
        self.assertEqual(run_program(program, NO_WORDS, 9), ((2, ("out", 0, 3)), (3, ("end", 0))))

    def test_as_without_them(self):
        some = 0
        for maker, program in made_programs(200):
            threads = tuple((name, places, without_nothings(block)) for name, places, block in program[4])
            lean = (*program[:4], threads)
            some += lean != program
            inputs = maker.input(program[0])
            self.assertEqual(run_program(program, inputs, 150), run_program(lean, inputs, 150))
            self.assertEqual(run_program(program, inputs, 150), Plain(program, inputs).record(150))
        self.assertGreater(some, 40)

    def test_steps(self):
        program = with_block(*rounds_within((), 9), ("times", 2, rounds_within((), 9) + (OUT,)))
        state, deeds = start_program(program, NO_WORDS), []
        for _ in range(6):
            state, done = step_program(program, state)
            deeds.extend(done)
        self.assertEqual(deeds, [("out", 0, 3), ("out", 0, 3), ("end", 0)])

    def test_has_slots(self):
        for nothing in NOTHINGS:
            self.assertIs(has_slots(rounds_within(nothing, 50)), False)
        for statement in (("skip", 1), OUT, ("take", "a", 0), ("set", "a", A), ("if", A, (), ()), ("while", A, ()),
                          ("put", "r", A, FOUR)):
            for many in (0, 1, 50):
                self.assertIs(has_slots(rounds_within((("skip", 0), statement), many)), True)
            self.assertIs(has_slots((("times", 0, (statement,)),)), False)


if __name__ == "__main__":
    unittest.main()
