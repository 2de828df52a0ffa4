"""Promises [74], [75] and [80]."""
import unittest

from lookalike.checker import is_checked
from lookalike.compiling import compiled
from lookalike.errors import InvalidText, Refused
from lookalike.faults import is_let_by, type_faults
from lookalike.labels import labelled
from lookalike.leastpapers import least_paper
from lookalike.machine import run_image
from lookalike.making import first_unlike, made, sight
from lookalike.meaning import run_program
from lookalike.padding import padded_program
from lookalike.papers import end_lots
from lookalike.programtexts import program_text
from lookalike.reading import read_program
from lookalike.records import cut_record, seen
from lookalike.wishes import wished_record
from evenimages import even_images, repaired_image
from letbyprograms import let_by_programs
from randomprograms import made_programs
from samples import FULL_TEXT, SMALL, SMALL_TOKENS, with_block
from wrongvalues import NO_TUPLES

A = ("name", "a")


def alike_inputs_of(maker, image, level):
    one, other = maker.input(image[0]), maker.input(image[0])
    return one, tuple(one[low] if low in image[0][level] else other[low] for low in range(len(image[0])))


class MadeTest(unittest.TestCase):
    def test_small(self):
        program, image, paper = made(text=SMALL_TOKENS)
        self.assertEqual(program, padded_program(labelled(SMALL)))
        self.assertEqual(image, compiled(program))
        self.assertEqual(paper, least_paper(image))
        self.assertTrue(is_checked(image, paper))
        self.assertEqual(made(SMALL_TOKENS + "  # and so on"), (program, image, paper))

    def test_wrong_texts(self):
        tokens = SMALL_TOKENS.split()
        for text, at in ((SMALL_TOKENS + " }", len(tokens)), (" ".join(tokens[:-1]), len(tokens) - 1), ("", 0), ("levels", 1), ("levels 0", 1),
                         (" ".join(["x", *tokens[1:]]), 0)):
            with self.assertRaises(InvalidText) as caught:
                made(text)
            self.assertEqual(caught.exception.at, at, text)
        for value in (*NO_TUPLES, b"levels 1", 3, ["levels"], ("levels",)):
            if not isinstance(value, str):
                with self.assertRaises(InvalidText) as caught:
                    made(value)
                self.assertEqual(caught.exception.at, 0)

    def test_refused(self):
        for block, many in (((("take", "a", 1), ("out", 0, A)), 1), ((("take", "a", 1), ("out", 0, A), ("out", 0, A)), 2),
                            ((("take", "a", 1), ("while", A, (("set", "a", ("word", 4, 0)),)), ("out", 0, ("word", 4, 1))), 1)):
            with self.assertRaises(Refused) as caught:
                made(program_text(with_block(*block)))
            self.assertEqual(caught.exception.at, many)
        self.assertEqual(len(type_faults(labelled(read_program(FULL_TEXT)))) > 0, not is_let_by(read_program(FULL_TEXT)))

    def test_made_ones(self):
        found = {True: 0, False: 0}
        for _, program in [*made_programs(60), *let_by_programs(30)]:
            text = program_text(program)
            found[is_let_by(program)] += 1
            if not is_let_by(program):
                with self.assertRaises(Refused) as caught:
                    made(text)
                self.assertEqual(caught.exception.at, len(type_faults(labelled(program))))
                continue
            told, image, paper = made(text)
            self.assertEqual(told, padded_program(labelled(program)))
            self.assertEqual((image, paper), (compiled(told), least_paper(compiled(told))))
            self.assertIs(is_checked(image, paper), True)
        self.assertGreater(min(found.values()), 15)


class SightTest(unittest.TestCase):
    def test_sights(self):
        _, image, paper = made(SMALL_TOKENS)
        for ticks in (0, 9, 12, 20):
            for level in (0, 1):
                inputs = ((), (3,))
                told = sight(image=image, paper=paper, inputs=inputs, level=level, ticks=ticks)
                self.assertEqual(told, seen(image[0], level, end_lots(paper), run_image(image, inputs, ticks)))
        for word, shown in ((3, 4), (0, 0), (15, 0)):
            self.assertEqual(sight(image, paper, ((), (word,)), 0, 50), ((11, ("end", 0)),))
            self.assertEqual(sight(image, paper, ((), (word,)), 1, 50), ((10, ("out", 1, shown)), (11, ("end", 0))))

    def test_first_unlike(self):
        _, image, paper = made(SMALL_TOKENS)
        record = run_image(image, ((), (3,)), 50)
        tick = record[0][0]
        for ticks in (0, 1, tick, tick + 1, tick + 2, 50):
            told = tick + 1 if ticks > tick else None
            self.assertEqual(first_unlike(image=image, paper=paper, one=((), (3,)), other=((), (5,)), level=1, ticks=ticks), told)
            self.assertEqual(first_unlike(image, paper, ((), (5,)), ((), (3,)), 1, ticks), told)
            self.assertIsNone(first_unlike(image, paper, ((), (3,)), ((), (5,)), 0, ticks))
            self.assertIsNone(first_unlike(image, paper, ((), (3,)), ((), (3, 7)), 1, ticks))

    def test_pairs_that_only_one_shows(self):
        # The one shows nothing more, or shows it later, or another word.
        order = ((0,), (0, 1))
        code = (("take", 1, 4), ("else", 4), ("push", 4, 1), ("out", 0), ("take", 1, 4), ("out", 0), ("end",))
        image = (order, (), (), (((), code),))
        paper = (((None,) * 7, (), ()),)
        for one, other, told in (((0, 5), (1, 5), 4), ((1, 5), (2, 6), 6), ((0, 1), (0, 2), 4), ((0, 5), (0, 5), None), ((1,), (3,), None), ((), (0, 0), None),
                                 ((1, 0), (0, 1), 5)):
            self.assertEqual(first_unlike(image, paper, ((), one), ((), other), 0, 50), told, (one, other))
            self.assertEqual(first_unlike(image, paper, ((), other), ((), one), 0, 50), told)
        # Ends that are seen by their lots in the paper alone.
        code = (("take", 1, 1), ("else", 3), ("rest",), ("end",))
        image = (order, (), (), (((), code),))
        for end, told in (((), 3), ((0,), 3), ((1,), None)):
            self.assertEqual(first_unlike(image, (((None,) * 4, (), end),), ((), (0,)), ((), (1,)), 0, 50), told)

    def test_as_told_by_all_numbers_of_ticks(self):
        found = {}
        for maker, image in even_images(60, depth=2):
            paper = least_paper(image)
            for level in range(len(image[0])):
                one, other = maker.few_words(), maker.few_words()
                sights = [[sight(image, paper, inputs, level, ticks) for ticks in range(40)] for inputs in (one, other)]
                told = next((ticks for ticks in range(40) if sights[0][ticks] != sights[1][ticks]), None)
                self.assertEqual(first_unlike(image, paper, one, other, level, 39), told)
                for ticks in range(40):
                    self.assertEqual(sights[0][ticks], cut_record(sights[0][39], ticks))
                found[told is None] = found.get(told is None, 0) + 1
        self.assertGreater(min(found.values()), 20)


class WholeTest(unittest.TestCase):
    def test_all_of_it(self):
        # For what is let by: equal sights of alike inputs, and the record of the padded program.
        runs = 0
        for maker, program in let_by_programs(40):
            told, image, paper = made(program_text(program))
            for level in range(len(image[0])):
                one, other = alike_inputs_of(maker, image, level)
                for ticks in (0, 1, maker.random.randint(0, 150), 200):
                    self.assertEqual(sight(image, paper, one, level, ticks), sight(image, paper, other, level, ticks))
                    self.assertIsNone(first_unlike(image, paper, one, other, level, ticks))
                self.assertEqual(run_image(image, one, 200), run_program(told, one, 200))
                runs += 1
        self.assertGreater(runs, 80)

    def test_whoever_wrote_image_and_paper(self):
        for maker, image in even_images(40, depth=2):
            image = repaired_image(image)
            paper = least_paper(image)
            for level in range(len(image[0])):
                one = maker.few_words()
                other = maker.alike_input(one, level)
                self.assertIsNone(first_unlike(image, paper, one, other, level, 150))

    def test_words_by_wishes(self):
        # Word by word: those of the level as it wishes by what it has seen, all others as anyone wishes.
        for maker, program in let_by_programs(30):
            _, image, paper = made(program_text(program))
            for level in range(len(image[0])):
                words = [maker.random.randrange(40) for _ in range(99)]
                wish = lambda told: words[sum(tick + pair[-1] for tick, pair in told) % 99]
                others = [tuple(maker.random.randrange(40) for _ in range(20)) for _ in range(3)]
                records = [wished_record(image, end_lots(paper), level, wish, other, 150) for other in others]
                self.assertEqual(records[0], records[1])
                self.assertEqual(records[0], records[2])


if __name__ == "__main__":
    unittest.main()
