"""Promises [76] and [77]."""
import random
import unittest

from lookalike.errors import InvalidText, LookError, InvalidQuestion, Refused
from lookalike.houses import House
from lookalike.machine import run_image, step_image
from lookalike.making import made
from lookalike.papers import end_lots
from lookalike.programtexts import program_text
from lookalike.records import is_input, is_record, seen
from lookalike.states import start_state
from letbyprograms import let_by_programs
from samples import SMALL_TOKENS, with_block

A = ("name", "a")
ECHO = program_text(with_block(("while", ("word", 1, 1), (("take", "a", 0), ("out", 0, A)))))
NO_LEVELS = (-1, 2, 12, True, False, None, "0", 0.0, (), (0,), [0])
NO_WORDS = (-1, True, False, None, "0", 1.0, (), (1,), [1])


class PlainHouse:
    """The same, with all deeds kept: what is asked is told by going through them anew."""

    def __init__(self, image, paper):
        self.image, self.paper = image, paper
        self.deeds = []

    def told(self):
        state, record = start_state(self.image, ((),) * len(self.image[0])), []
        given = [[] for _ in self.image[0]]
        for deed in self.deeds:
            if deed[0] == "give":
                given[deed[1]].append(deed[2])
                streams = tuple((*stream, deed[2]) if level == deed[1] else stream for level, stream in enumerate(state[3]))
                state = (*state[:3], streams, state[4])
            else:
                for _ in range(deed[1]):
                    tick = state[0]
                    state, deeds = step_image(self.image, state)
                    record += [(tick, deed) for deed in deeds]
        return tuple(map(tuple, given)), state[0], tuple(record)


def all_of(house):
    """What a house tells."""
    return house.inputs(), house.ticks(), house.record()


class HouseTest(unittest.TestCase):
    def test_start(self):
        house = House(text=SMALL_TOKENS)
        self.assertEqual((house.program, house.image, house.paper), made(SMALL_TOKENS))
        self.assertEqual(all_of(house), (((), ()), 0, ()))
        self.assertEqual((len(house), house.see(0), house.see(1), house.undo()), (0, (), (), False))

    def test_wrong_texts(self):
        for value in (None, 3, b"", ["levels"], "", "levels 1", SMALL_TOKENS + " x"):
            with self.assertRaises(InvalidText):
                House(value)
        with self.assertRaises(Refused) as caught:
            House(program_text(with_block(("take", "a", 1), ("out", 0, A))))
        self.assertEqual(caught.exception.at, 1)

    def test_deeds(self):
        house = House(SMALL_TOKENS)
        self.assertIsNone(house.give(level=1, word=3))
        self.assertIsNone(house.tick(many=50))
        self.assertEqual(house.inputs(), ((), (3,)))
        self.assertEqual(house.ticks(), 50)
        self.assertEqual(house.record(), run_image(house.image, ((), (3,)), 50))
        for level in (0, 1):
            self.assertEqual(house.see(level=level), seen(house.image[0], level, end_lots(house.paper), house.record()))
        self.assertTrue(is_input(house.image[0], house.inputs()) and is_record(house.image[0], house.record()))
        self.assertIs(house.inputs().__class__, tuple)
        self.assertEqual(len(house), 2)

    def test_wrong_values(self):
        house = House(ECHO)
        house.give(0, 5)
        house.tick(3)
        told = all_of(house)
        for level in NO_LEVELS:
            for ask in (house.see, lambda value: house.give(value, 1), lambda value: house.give(value, None)):
                with self.assertRaises(InvalidQuestion) as caught:
                    ask(level)
                self.assertEqual(caught.exception.at, 0)
        for word in NO_WORDS:
            with self.assertRaises(InvalidQuestion) as caught:
                house.give(1, word)
            self.assertEqual(caught.exception.at, 1)
        for many in (*NO_WORDS, 10001, 10 ** 30):
            with self.assertRaises(InvalidQuestion) as caught:
                house.tick(many)
            self.assertEqual(caught.exception.at, 0)
        self.assertEqual((all_of(house), len(house)), (told, 2))

    def test_ticks(self):
        house = House(ECHO)
        house.tick(0)
        self.assertEqual((house.ticks(), len(house)), (0, 1))
        house.tick(10000)
        house.tick(7)
        self.assertEqual((house.ticks(), len(house)), (10007, 3))
        # Also where all threads have ended.
        house = House(SMALL_TOKENS)
        house.tick(10000)
        house.tick(1)
        self.assertEqual(house.ticks(), 10001)
        self.assertEqual(house.record(), run_image(house.image, ((), ()), 10001))

    def test_words_behind_takes(self):
        # A round takes seven slots: push, else, take, keep, local, out, jump.
        house = House(ECHO)
        self.assertEqual([part[0] for part in house.image[3][0][1]], ["push", "else", "take", "keep", "local", "out", "jump", "end"])
        house.tick(3)
        # The first take is over: this word is for the next one.
        house.give(0, 5)
        house.tick(7)
        house.give(0, 6)
        house.give(0, 17)
        house.give(1, 9)
        house.tick(17)
        house.give(0, 2)
        self.assertEqual([deed[2] for _, deed in house.record()], [0, 5, 6, 1])
        self.assertEqual(house.inputs(), ((5, 6, 17, 2), (9,)))
        house.tick(14)
        self.assertEqual([deed[2] for _, deed in house.record()], [0, 5, 6, 1, 2, 0])
        # For a take that never comes it is given all the same.
        house = House(SMALL_TOKENS)
        house.tick(1)
        house.give(1, 3)
        house.tick(100)
        self.assertEqual((house.record(), house.inputs()), (run_image(house.image, ((), ()), 101), ((), (3,))))

    def test_large_words(self):
        house = House(ECHO)
        house.give(0, 10 ** 3000 + 3)
        house.tick(6)
        self.assertEqual(house.record(), ((5, ("out", 0, (10 ** 3000 + 3) % 16)),))

    def test_what_was_told_is_kept(self):
        house = House(ECHO)
        house.give(0, 4)
        told = all_of(house)
        house.give(0, 5)
        house.tick(99)
        self.assertEqual(told, (((4,), ()), 0, ()))


class UndoTest(unittest.TestCase):
    def test_undo(self):
        house = House(ECHO)
        told = []
        for deed in (lambda: house.give(0, 3), lambda: house.tick(4), lambda: house.give(1, 5), lambda: house.tick(0), lambda: house.tick(20),
                     lambda: house.give(0, 6), lambda: house.tick(8)):
            told.append((len(house), all_of(house), house.see(0)))
            deed()
        while told:
            self.assertIs(house.undo(), True)
            self.assertEqual((len(house), all_of(house), house.see(0)), told.pop())
        self.assertIs(house.undo(), False)
        self.assertEqual((len(house), all_of(house)), (0, (((), ()), 0, ())))

    def test_deeds_behind_undone_ones(self):
        house, other = House(ECHO), House(ECHO)
        house.give(0, 3)
        house.tick(30)
        house.give(0, 9)
        house.undo()
        house.undo()
        house.give(0, 4)
        house.tick(30)
        other.give(0, 3)
        other.give(0, 4)
        other.tick(30)
        self.assertEqual(all_of(house), all_of(other))
        self.assertEqual(len(house), 3)

    def test_within(self):
        house = House(ECHO)
        house.give(0, 3)
        house.tick(6)
        told = all_of(house)

        def work(same):
            self.assertIs(same, house)
            self.assertEqual(len(same), 2)
            same.give(0, 7)
            same.tick(20)
            self.assertEqual(len(same), 4)
            self.assertTrue(same.undo())
            same.tick(9)
            return (len(same), same.record(), same.inputs())

        self.assertEqual(house.within(work=work), (4, ((5, ("out", 0, 3)), (12, ("out", 0, 7))), ((3, 7), ())))
        self.assertEqual((all_of(house), len(house)), (told, 2))
        self.assertTrue(house.undo())
        self.assertEqual(len(house), 1)
        self.assertIsNone(house.within(lambda same: None))

    def test_work_that_raises(self):
        class Odd(BaseException):
            pass

        house = House(ECHO)
        house.give(0, 3)
        told = all_of(house)
        for error in (KeyError, Odd, InvalidQuestion, ZeroDivisionError):
            def work(same):
                same.tick(20)
                same.give(1, 1)
                raise error(3)

            with self.assertRaises(error):
                house.within(work)
            self.assertEqual((all_of(house), len(house)), (told, 1))
        with self.assertRaises(InvalidQuestion):
            house.within(lambda same: (same.tick(5), same.give(7, 7)))
        self.assertEqual((all_of(house), len(house)), (told, 1))
        house.tick(6)
        self.assertEqual(house.record(), ((5, ("out", 0, 3)),))

    def test_looks_within_looks(self):
        house = House(ECHO)
        house.give(0, 1)

        def inner(same):
            same.give(0, 3)
            same.tick(40)
            return same.inputs()

        def outer(same):
            same.give(0, 2)
            ahead = all_of(same)
            first = same.within(inner)
            self.assertEqual((all_of(same), len(same)), (ahead, 2))
            with self.assertRaises(KeyError):
                same.within(lambda other: (other.tick(7), {}[0]))
            self.assertEqual((all_of(same), len(same)), (ahead, 2))
            same.undo()
            return first, same.within(inner), len(same)

        self.assertEqual(house.within(outer), (((1, 2, 3), ()), ((1, 3), ()), 1))
        self.assertEqual((house.inputs(), house.ticks(), len(house)), (((1,), ()), 0, 1))

    def test_made_ones(self):
        # Held against all deeds done anew.
        for maker, program in let_by_programs(25):
            house = House(program_text(program))
            plain = PlainHouse(house.image, house.paper)
            for _ in range(60):
                way = maker.random.choice(["give", "give", "tick", "tick", "undo", "within", "wrong"])
                if way == "give":
                    deed = ("give", maker.random.randrange(len(house.image[0])), maker.random.choice([0, 1, 7, 300]))
                    house.give(*deed[1:])
                    plain.deeds.append(deed)
                elif way == "tick":
                    deed = ("tick", maker.random.choice([0, 1, 2, 9, 30]))
                    house.tick(deed[1])
                    plain.deeds.append(deed)
                elif way == "undo":
                    self.assertIs(house.undo(), len(plain.deeds) > 0)
                    plain.deeds = plain.deeds[:-1]
                elif way == "within":
                    told = all_of(house)
                    look = house.within(lambda same: (same.give(0, 4), same.tick(11), same.tick(3), same.undo(), all_of(same))[-1])
                    plain.deeds += [("give", 0, 4), ("tick", 11)]
                    self.assertEqual(look, plain.told())
                    plain.deeds = plain.deeds[:-2]
                    self.assertEqual(all_of(house), told)
                else:
                    self.assertRaises(LookError, house.tick, -1)
                self.assertEqual(all_of(house), plain.told())
                self.assertEqual(len(house), len(plain.deeds))
            level = maker.random.randrange(len(house.image[0]))
            self.assertEqual(house.see(level), seen(house.image[0], level, end_lots(house.paper), house.record()))

    def test_two_houses_side_by_side(self):
        # The same ticks, the same words to the levels within one, each behind as many ticks: they show it the same.
        shown = 0
        for maker, program in let_by_programs(30):
            text = program_text(program)
            for level in range(len(program[0])):
                houses = [House(text), House(text)]
                choose = random.Random(level)
                for _ in range(30):
                    below = program[0][level]
                    words = [(choose.choice(below), choose.choice([0, 1, 9])) for _ in range(choose.randint(0, 2))]
                    many = choose.choice([0, 1, 5, 17])
                    for house in houses:
                        own = list(words)
                        while own or choose.random() < 0.3:
                            if own and choose.random() < 0.6:
                                house.give(*own.pop(0))
                            else:
                                other = choose.randrange(len(program[0]))
                                if other not in below:
                                    house.give(other, choose.choice([0, 1, 5]))
                        for part in choose.choice([[many], [0, many], [many // 2, many - many // 2]]):
                            house.tick(part)
                    self.assertEqual(houses[0].see(level), houses[1].see(level))
                shown += len(houses[0].see(level))
        self.assertGreater(shown, 100)


if __name__ == "__main__":
    unittest.main()
