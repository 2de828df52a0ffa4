"""Promises [67] and [68]."""
import itertools
import unittest

from lookalike.bare import bare_deed, bare_start, bare_states, bare_step
from lookalike.errors import InvalidQuestion, Refused
from lookalike.orders import order_of
from lookalike.visible import is_visible_machine, sight_of
from lookalike.watched import is_parting, least_machine, watched
from plainwatch import PlainPairs, plain_sight, plain_start, plain_step, small_images
from test_checker import ORDER, one_thread
from test_visible import ECHO, echo_machine
from wrongvalues import NO_TUPLES, of_other_kinds, otherwise

END = ("end",)
# A secret bit tells how long a rest is.
WAIT = one_thread(("take", 1, 1), ("else", 3), ("rest",), ("push", 1, 1), ("out", 0), END)
# A word that is seen is shown with a secret in front of it, which is added to it.
SUM = one_thread(("take", 1, 4), ("keep", 0), ("take", 0, 4), ("local", 0), ("op", "add", 4), ("out", 0), END, widths=(4,))


def plain_is_parting(image, ends, level, value):
    def numbers(part):
        return part.__class__ is tuple and all(number.__class__ is int and number >= 0 for number in part)

    if value.__class__ is not tuple or len(value) != 2 or not all(map(numbers, value)) or len(value[0]) != len(value[1]):
        return False
    runs = []
    for words in value:
        bare, sights = plain_start(image), []
        for word in words:
            sights.append(plain_sight(image, ends, level, bare))
            bare = plain_step(image, bare, word)
        runs.append((sights, plain_sight(image, ends, level, bare)))
    told = all(one == other for sight, one, other in zip(runs[0][0], *value) if sight is not None and sight[0] == "take")
    return runs[0][0] == runs[1][0] and told and runs[0][1] != runs[1][1]


class ExampleTest(unittest.TestCase):
    def test_example(self):
        order = order_of(2, [(0, 1)])
        code = (("take", 1, 1), ("else", 3), ("rest",), ("push", 1, 1), ("out", 0), ("end",))
        image = (order, (), (), (((), code),))
        self.assertEqual((watched(image, ((0,),), 0, 100)[0], is_parting(image, ((0,),), 0, ((0, 0, 0, 0), (1, 0, 0, 0))), bare_deed(image, bare_start(image))),
                         ('parts', False, ('take', 1)))
        self.assertEqual((is_parting(image, ((0,),), 0, ((0, 0, 0), (1, 0, 0))), watched(image, ((1,),), 1, 100)[0]),
                         (True, 'sees'))


class PartingTest(unittest.TestCase):
    def check(self, image, ends, level, value, told):
        self.assertIs(is_parting(image=image, ends=ends, level=level, value=value), told, value)
        self.assertIs(plain_is_parting(image, ends, level, value), told, value)

    def test_ticks(self):
        for many in range(9):
            for one, other in ((0, 1), (1, 0), (2, 3), (0, 2), (1, 1)):
                told = many == 3 and one % 2 != other % 2
                self.check(WAIT, ((0,),), 0, (((one,) + (0,) * many)[:many], ((other,) + (0,) * many)[:many]), told)
                self.check(WAIT, ((0,),), 1, (((one,) + (0,) * many)[:many], ((other,) + (0,) * many)[:many]), False)
        # Words at other ticks are not used.
        self.check(WAIT, ((0,),), 0, ((0, 7, 9), (1, 10 ** 30, 5)), True)

    def test_no_tick(self):
        for image in (WAIT, SUM, ECHO, one_thread(("out", 0), END)):
            for level in (0, 1):
                self.check(image, ((),), level, ((), ()), False)

    def test_takes_that_are_seen(self):
        for words, told in ((((1, 0, 3, 0, 0), (2, 0, 3, 0, 0)), True), (((1, 0, 3, 0, 0), (2, 0, 4, 0, 0)), False),
                            (((1, 0, 3, 0, 0), (1, 0, 4, 0, 0)), False), (((1, 0, 3, 0, 0), (1, 0, 3, 0, 0)), False),
                            # Equal numbers: it is not enough that they are wrapped to the same word.
                            (((1, 0, 19, 0, 0), (2, 0, 3, 0, 0)), False), (((1, 0, 19, 0, 0), (2, 0, 19, 0, 0)), True),
                            (((17, 0, 3, 0, 0), (1, 0, 3, 0, 0)), False), (((17, 0, 3, 0, 0), (2, 0, 3, 0, 0)), True),
                            (((1, 5, 3, 0, 0), (2, 6, 3, 7, 8)), True), (((1, 0, 3, 0), (2, 0, 3, 0)), False),
                            (((1, 0, 3, 0, 0, 0), (2, 0, 3, 0, 0, 0)), False)):
            self.check(SUM, ((),), 0, words, told)
        # For level 1 the first take is seen, too.
        self.check(SUM, ((),), 1, ((1, 0, 3, 0, 0), (2, 0, 3, 0, 0)), False)

    def test_ends(self):
        image = one_thread(("take", 1, 1), ("else", 3), ("rest",), END)
        for ends, level, told in ((((),), 0, True), (((0,),), 0, True), (((1,),), 0, False), (((1,),), 1, False)):
            self.check(image, ends, level, ((0, 0), (1, 0)), told)

    def test_wrong_values(self):
        value = ((0, 0, 1), (1, 0, 1))
        self.check(WAIT, ((0,),), 0, value, True)
        for wrong in (*NO_TUPLES, *of_other_kinds(value), ((0, 0), (1, 0, 0)), ((0, 0, 0), (1, 0)), (value[0],), (*value, value[0])):
            self.check(WAIT, ((0,),), 0, wrong, False)
        for other in otherwise(value):
            self.check(WAIT, ((0,),), 0, other, plain_is_parting(WAIT, ((0,),), 0, other))

    def test_made_ones(self):
        found = {True: 0, False: 0}
        for maker, image, ends, states in small_images(80, 60, most_width=1, depth=2):
            for level in range(len(image[0])):
                for ticks in range(0, 16, 3):
                    value = tuple(tuple(maker.random.choice([0, 1, 1, 2, 16, 17]) for _ in range(ticks)) for _ in range(2))
                    told = plain_is_parting(image, ends, level, value)
                    self.assertIs(is_parting(image, ends, level, value), told)
                    found[told] += 1
                word, value = watched(image, ends, level, len(states))
                if word == "parts":
                    for other in (value, value[::-1], tuple(part[:-1] for part in value), tuple((*part, 0) for part in value)):
                        told = plain_is_parting(image, ends, level, other)
                        self.assertIs(is_parting(image, ends, level, other), told)
                        found[told] += 1
        self.assertGreater(min(found.values()), 40)


class WatchedTest(unittest.TestCase):
    def test_refused(self):
        for image in (WAIT, ECHO, SUM):
            many = len(bare_states(image, 5000))
            watched(image, ((),), 0, many)
            for most in (0, 1, many // 2, many - 1):
                with self.assertRaises(Refused) as caught:
                    watched(image=image, ends=((),), level=0, most=most)
                self.assertEqual(caught.exception.at, most)
        # Also where runs part early: bare states are counted first.
        endless = one_thread(("take", 1, 1), ("out", 0), ("push", 1, 1), ("jump", 2))
        self.assertRaises(Refused, watched, endless, ((),), 0, 500)

    def test_numbers_of_blocks(self):
        # As they first stand: the start, the take, then behind the words in order.
        self.assertEqual(watched(ECHO, ((),), 0, 1000), ("sees", echo_machine()))
        word, (blocks, rows) = watched(ECHO, ((),), 1, 1000)
        self.assertEqual(word, "sees")
        self.assertEqual(list(dict.fromkeys(blocks)), list(range(len(rows))))

    def test_least(self):
        # Secrets that are told nowhere make one block, however many states they make.
        image = one_thread(("take", 1, 4), ("keep", 0), ("take", 1, 4), ("keep", 0), END, widths=(4,))
        self.assertEqual(len(bare_states(image, 1000)), 1 + 16 + 16 + 256 + 16 + 1)
        word, (blocks, rows) = watched(image, ((),), 0, 1000)
        self.assertEqual(rows, ((None, (1,)), (None, (2,)), (None, (3,)), (None, (4,)), (("end", 0), (5,)), (None, (5,))))
        self.assertEqual(watched(image, ((1,),), 0, 1000), ("sees", ((0,) * len(blocks), ((None, (0,)),))))

    def test_either_of_both(self):
        found = {"sees": 0, "parts": 0}
        longest = 0
        for maker, image, ends, states in itertools.chain(small_images(60, 90), small_images(120, 90, most_width=1, depth=2)):
            for level in range(len(image[0])):
                pairs = PlainPairs(image, ends, level, states)
                word, value = watched(image, ends, level, len(states))
                self.assertEqual(word, "sees" if pairs.parts() is None else "parts")
                found[word] += 1
                if word == "sees":
                    self.assertEqual(value, pairs.least())
                    self.assertIs(is_visible_machine(image, ends, level, value), True)
                else:
                    self.assertIs(is_parting(image, ends, level, value), True)
                    self.assertLess(len(value[0]), 2 * len(states))
                    self.assertGreaterEqual(len(value[0]), pairs.parts())
                    longest = max(longest, len(value[0]))
        self.assertGreater(min(found.values()), 50)
        self.assertGreater(longest, 15)

    def test_late_partings(self):
        # A secret is taken in each round of a public counter, and shown when this is full.
        code = (("take", 1, 1), ("keep", 1), ("local", 0), ("push", 8, 1), ("op", "add", 8), ("keep", 0), ("local", 0), ("push", 8, 60), ("op", "eq", 8),
                ("else", 0), ("local", 1), ("out", 0), END)
        image = one_thread(*code, widths=(8, 1))
        many = len(bare_states(image, 5000))
        word, value = watched(image, ((1,),), 0, 5000)
        self.assertEqual(word, "parts")
        self.assertIs(is_parting(image, ((1,),), 0, value), True)
        self.assertLess(len(value[0]), 2 * many)
        self.assertEqual(len(value[0]), 60 * 10 + 1)
        # A secret that is kept from the start on, and a chain of states behind it.
        code = (("take", 1, 2), ("keep", 0), *[("rest",)] * 200, ("local", 0), ("push", 2, 3), ("op", "eq", 2), ("out", 0), END)
        image = one_thread(*code, widths=(2,))
        word, value = watched(image, ((1,),), 0, 5000)
        self.assertEqual((word, len(value[0])), ("parts", 205))
        self.assertLess(len(value[0]), 2 * len(bare_states(image, 5000)))

    def test_what_is_found_is_short(self):
        # Two counters, one that is hidden and one that is seen: pairs of states are many more than states.
        code = (("take", 1, 1), ("else", 6), ("local", 0), ("push", 4, 1), ("op", "add", 4), ("jump", 9), ("local", 0), ("rest",), ("jump", 9), ("keep", 0),
                ("local", 0), ("push", 4, 15), ("op", "eq", 4), ("else", 0), ("push", 1, 1), ("out", 0), END)
        image = one_thread(*code, widths=(4,))
        word, value = watched(image, ((1,),), 0, 5000)
        self.assertEqual(word, "parts")
        self.assertIs(is_parting(image, ((1,),), 0, value), True)
        self.assertLess(len(value[0]), 2 * len(bare_states(image, 5000)))

    def test_takes_of_unlike_widths(self):
        # Who takes one bit, and who takes two: words of two bits tell one from the other.
        code = (("take", 1, 1), ("else", 4), ("take", 0, 1), ("jump", 6), ("take", 0, 2), ("jump", 6), ("keep", 0), ("local", 0), ("out", 0), END)
        image = one_thread(*code, widths=(2,))
        word, value = watched(image, ((),), 0, 500)
        self.assertEqual((word, len(value[0])), ("parts", 6))
        self.assertIs(is_parting(image, ((),), 0, value), True)
        self.assertIn(value[0][2], (2, 3, 6, 7, 10, 11, 14, 15))
        self.assertIsNotNone(PlainPairs(image, ((),), 0, bare_states(image, 500)).parts())
        # The same if the one bit is all that is shown.
        code = (*code[:8], ("push", 2, 1), ("op", "and", 2), ("out", 0), END)
        image = one_thread(*code, widths=(2,))
        self.assertEqual(watched(image, ((),), 0, 500), ("sees", PlainPairs(image, ((),), 0, bare_states(image, 500)).least()))

    def test_many_states(self):
        code = (("take", 1, 4), ("keep", 0), ("local", 0), ("else", 6), ("rest",), ("jump", 8), ("rest",), ("rest",), ("local", 1), ("push", 4, 1),
                ("op", "add", 4), ("keep", 1), ("local", 1), ("out", 0), ("jump", 0))
        image = one_thread(*code, widths=(4, 4))
        states = bare_states(image, 10000)
        self.assertGreater(len(states), 5000)
        word, value = watched(image, ((),), 0, 10000)
        self.assertEqual((word, len(value[1])), ("sees", 16 * 13))
        self.assertIs(is_visible_machine(image, ((),), 0, value), True)


class LeastTest(unittest.TestCase):
    def test_wrong_values(self):
        value = echo_machine()
        self.assertEqual(least_machine(image=ECHO, ends=((),), level=0, value=value), value)
        for wrong in (*NO_TUPLES, *of_other_kinds(value), (value[0], value[1][:-1])):
            with self.assertRaises(InvalidQuestion) as caught:
                least_machine(ECHO, ((),), 0, wrong)
            self.assertEqual(caught.exception.at, 3)
        with self.assertRaises(InvalidQuestion):
            least_machine(ECHO, ((),), 1, value)

    def test_made_ones(self):
        # From each visible machine, its blocks being parted or numbered in some way, the one least one.
        told = 0
        for maker, image, ends, states in small_images(60, 60):
            for level in range(len(image[0])):
                pairs = PlainPairs(image, ends, level, states)
                if pairs.parts() is not None:
                    continue
                least = pairs.least()
                values = [least]
                # As fine as classes may be: those that alike runs come to, put together one by one.
                leads = list(range(len(states)))

                def lead(number):
                    return number if leads[number] == number else lead(leads[number])

                waiting = [(number, number) for number in leads] + [(maker.random.choice(leads), maker.random.choice(leads)) for _ in range(3)]
                waiting = [pair for pair in waiting if pair not in pairs.unlike]
                seen = set()
                while waiting:
                    one, other = waiting.pop()
                    if lead(one) != lead(other) or one == other and one not in seen:
                        seen |= {one} if one == other else set()
                        leads[lead(one)] = lead(other)
                        waiting += pairs.nexts(one, other)
                names = list(dict.fromkeys(map(lead, range(len(states)))))
                rest = names[1:]
                maker.random.shuffle(rest)
                names[1:] = rest
                blocks = tuple(names.index(lead(number)) for number in range(len(states)))
                rows = []
                for block in range(len(names)):
                    first = blocks.index(block)
                    sight, behind = pairs.sights[first], pairs.behind[first]
                    many = 16 if sight is not None and sight[0] == "take" else 1
                    rows.append((sight, tuple(blocks[behind[word % len(behind)]] for word in range(many))))
                values.append((blocks, tuple(rows)))
                for value in values:
                    self.assertIs(is_visible_machine(image, ends, level, value), True)
                    self.assertEqual(least_machine(image, ends, level, value), least)
                    # The blocks lie within those of the least one.
                    self.assertEqual(len(set(zip(value[0], least[0]))), len(value[1]))
                told += values[1] != least
        self.assertGreater(told, 30)

    def test_alike_for_ever(self):
        # Handed on from a first to a second and a third one; two blocks are told apart by some words.
        for _, image, ends, states in small_images(30, 40):
            for level in range(len(image[0])):
                word, value = watched(image, ends, level, 1000)
                if word != "sees":
                    continue
                blocks, rows = value
                pairs = PlainPairs(image, ends, level, states)
                for one, other in itertools.product(range(len(states)), repeat=2):
                    self.assertEqual(blocks[one] == blocks[other], (one, other) not in pairs.unlike)
                # All that two alike runs come to at one tick.
                for bare, block in zip(states, blocks):
                    self.assertEqual(rows[block][0], sight_of(image, ends, level, bare))
                    if rows[block][0] is None:
                        for code in range(4):
                            self.assertEqual(blocks[states.index(bare_step(image, bare, code))], rows[block][1][0])


if __name__ == "__main__":
    unittest.main()
