"""Promise [61]."""
import itertools
import random
import unittest

from lookalike.checker import is_checked
from lookalike.leastpapers import least_paper
from lookalike.meetings import code_regions, meeting
from changedpapers import changed_papers
from evenimages import even_images, repaired_image
from plainpapers import nexts, plain_meeting, plain_regions
from randomimages import made_images

REST, END, PUSH = ("rest",), ("end",), ("push", 1, 0)


def other(row):
    return ("else", row)


def jump(row):
    return ("jump", row)


class ExampleTest(unittest.TestCase):
    def test_example(self):
        even = (("take", 1, 1), ("else", 4), ("rest",), ("jump", 6), ("rest",), ("rest",), ("push", 1, 1), ("out", 0), ("end",))
        self.assertEqual((meeting(even, 1), code_regions(even), code_regions((("push", 1, 0), ("else", 3), ("rest",), ("end",)))),
                         ((6, 2), ((1, 6, 2),), ()))


class MeetingTest(unittest.TestCase):
    def check(self, told, *code, row=1):
        plain = plain_meeting(code, row)
        self.assertEqual(meeting(code=code, row=row), told)
        self.assertEqual(None if plain is None else plain[:2], told)

    def test_even_sides(self):
        self.check((3, 1), PUSH, other(4), jump(3), END, jump(3))
        self.check((6, 2), PUSH, other(4), REST, jump(6), REST, REST, END)
        # The row at which they meet may end, or be the choice itself, or stand ahead of it.
        self.check((0, 1), PUSH, other(3), jump(0), jump(0))
        self.check((1, 1), PUSH, other(3), jump(1), jump(1))
        self.check((0, 1), END, other(3), jump(0), jump(0))

    def test_no_time(self):
        self.check(None, PUSH, other(2), REST, END)
        self.check(None, PUSH, other(2), END)

    def test_sides_that_are_not_even(self):
        self.check(None, PUSH, other(4), REST, REST, END)
        self.check(None, PUSH, other(3), REST, REST, REST, END)
        # Later they come to one row all the same, but a row stands in two of the fronts.
        self.check(None, PUSH, other(4), REST, jump(5), REST, jump(2))

    def test_ends_ahead(self):
        self.check(None, PUSH, other(4), jump(3), END, END)
        self.check(None, PUSH, other(3), END, jump(4), END)
        self.check(None, PUSH, other(4), REST, END, END)
        # One side ends, and the fronts become one row with the other one.
        self.check(None, PUSH, other(3), END, REST, END)

    def test_rows_twice(self):
        # Sides that go round.
        self.check(None, PUSH, other(4), REST, jump(2), REST, jump(4))
        self.check(None, PUSH, other(4), jump(3), jump(2), END)
        # The last front is a row that stood in one ahead of it.
        self.check(None, PUSH, other(3), jump(3), jump(3))
        self.check(None, PUSH, other(4), jump(4), END, jump(4))
        # The choice itself stands in a front ahead.
        self.check(None, PUSH, other(4), jump(1), REST, jump(5), jump(6), END)

    def test_choices_within(self):
        # Three rows in a front, then one.
        self.check((7, 2), PUSH, other(5), other(4), jump(7), jump(7), jump(6), jump(7), END)
        self.check((5, 1), PUSH, other(4), jump(5), END, jump(5), END)
        # A front with one row in it, led to by three.
        self.check((5, 2), PUSH, other(6), other(4), jump(5), jump(5), jump(8), REST, jump(5), END)

    def test_made_ones(self):
        found = {True: 0, False: 0}
        for code in [*made_codes(2000), *changed_codes(300)]:
            for row, part in enumerate(code):
                if part[0] == "else":
                    plain = plain_meeting(code, row)
                    self.assertEqual(meeting(code, row), None if plain is None else plain[:2], (code, row))
                    found[plain is None] += 1
        self.assertGreater(min(found.values()), 300)


def made_codes(many):
    """Short codes of choices and jumps."""
    choose = random.Random(7)
    for number in range(many):
        size = choose.randint(3, 10)
        # Mostly on to rows that stand near behind.
        away = number % 3
        goal = lambda row: choose.randrange(size) if choose.randrange(6) < away else min(row + choose.randint(2, 4), size - 1)
        kinds = [lambda row: ("else", goal(row)), lambda row: ("jump", goal(row)), lambda row: ("rest",), lambda row: ("end",)]
        code = [choose.choices(kinds, (3, 4, 4, away / 4))[0](row) for row in range(size - 1)]
        yield (*code, choose.choice([("end",), ("jump", choose.randrange(size))]))


def changed_codes(many):
    """Codes with even choices, most of them with a row or two changed."""
    for number, (maker, image) in enumerate(even_images(many, depth=2, threads=1)):
        code = list(image[3][0][1])
        for _ in range(number % 3):
            row = maker.random.randrange(len(code))
            goal = min(max(row + maker.random.randint(-3, 5), 0), len(code) - 1)
            if code[row][0] == "jump" or row < len(code) - 1:
                code[row] = maker.random.choice([("jump", goal), ("else", goal), ("rest",)] if row < len(code) - 1 else [("jump", goal)])
        yield tuple(code)


def are_fit(code, rows):
    """Whether the meetings of these choices may be regions together."""
    for row in rows:
        ahead = plain_meeting(code, row)[2]
        if 0 in ahead or not all(inner in rows for inner in ahead if code[inner][0] == "else"):
            return False
        for comer in range(len(code)):
            if comer != row and comer not in ahead and ahead & nexts(code, comer):
                return False
    return True


class RegionTest(unittest.TestCase):
    def check(self, told, *code):
        self.assertEqual(code_regions(code=code), told)
        self.assertEqual(plain_regions(code), told)

    def test_one(self):
        self.check((), END)
        self.check((), PUSH, jump(0))
        self.check(((1, 6, 2),), PUSH, other(4), REST, jump(6), REST, REST, END)
        self.check(((1, 0, 2),), PUSH, other(4), REST, jump(0), REST, jump(0))

    def test_something_leads_into_it(self):
        # A jump from behind, from nowhere, from ahead, and from a choice.
        base = (PUSH, other(4), REST, jump(6), REST, REST)
        self.check(((1, 6, 2),), *base, REST, jump(6))
        self.check(((1, 6, 2),), *base, REST, jump(1))
        for row in (2, 3, 4, 5):
            self.check((), *base, REST, jump(row))
            self.check((), *base, END, jump(row))
            self.check((), *base, other(row), END)
        self.check((), jump(2), other(4), REST, jump(6), REST, REST, END)
        # A choice that nothing leads to is one like others.
        self.check(((2, 7, 2),), PUSH, jump(7), other(5), REST, jump(7), REST, REST, END)

    def test_the_first_row(self):
        self.check((), REST, jump(5), PUSH, other(0), jump(1), END)
        self.check((), jump(4), PUSH, other(0), jump(4), END)
        self.check(((2, 0, 1),), jump(1), PUSH, other(4), jump(0), jump(0))
        # A code that begins with a choice.
        self.check(((0, 3, 1),), other(2), jump(3), jump(3), END)

    def test_within_others(self):
        inner = (PUSH, other(8), PUSH, other(6), REST, jump(12), REST, jump(12), REST, REST, REST, REST, END)
        self.check(((1, 12, 4), (3, 12, 2)), *inner)
        # The inner one is not even: so the outer one is none, either; but it is one without the outer one.
        self.check(((4, 7, 1),), PUSH, other(9), REST, PUSH, other(6), jump(7), jump(7), REST, REST, END)
        self.check((), PUSH, other(10), PUSH, other(6), REST, jump(8), jump(8), REST, jump(12), REST, REST, REST, END)
        # Fronts of the outer one that meet, while those of the inner one are led into.
        uneven = (PUSH, other(7), PUSH, other(5), jump(10), jump(10), REST, REST, REST, jump(10), END)
        self.check(((3, 10, 1),), *uneven)

    def test_as_many_as_can_be(self):
        found = {}
        for code in [*made_codes(1500), *changed_codes(500)]:
            regions = code_regions(code)
            self.assertEqual(regions, plain_regions(code), code)
            self.assertEqual(regions, tuple(sorted(regions)))
            choices = [row for row, part in enumerate(code) if part[0] == "else" and plain_meeting(code, row) is not None]
            told = [region[0] for region in regions]
            self.assertTrue(are_fit(code, told))
            for many in range(len(choices) + 1 if len(choices) < 7 else 0):
                for rows in itertools.combinations(choices, many):
                    if are_fit(code, rows):
                        self.assertLessEqual(set(rows), set(told))
            found[len(regions)] = found.get(len(regions), 0) + 1
        self.assertGreater(found[1], 100)
        self.assertGreater(found[2], 50)

    def test_made_ones(self):
        for _, image in [*even_images(40), *made_images(200)]:
            for _, code in image[3]:
                self.assertEqual(code_regions(code), plain_regions(code))

    def test_large_ones(self):
        # Choices within one another, as deep as codes may be.
        code = [PUSH]
        for depth in range(700):
            code += [other(len(code) + 2), REST]
        code += [END]
        self.assertEqual(code_regions(tuple(code)), ())
        code = []
        for _ in range(370):
            at = len(code)
            code += [PUSH, other(at + 4), REST, jump(at + 6), REST, REST, REST, REST]
        code += [END]
        self.assertEqual(code_regions(tuple(code)), tuple((at + 1, at + 6, 2) for at in range(0, 8 * 370, 8)))

    def test_regions_of_checked_papers(self):
        # A region whose choice has an entry has its first meeting where it ends, or ahead of it.
        seen = 0
        for maker, image in even_images(50, depth=2):
            image = repaired_image(image)
            for paper in [least_paper(image), *changed_papers(maker, image, least_paper(image), 8)]:
                if not is_checked(image, paper):
                    continue
                for (_, code), (entries, regions, _) in zip(image[3], paper):
                    for begin, to, _, time, _, _ in regions:
                        if entries[begin] is None or len(nexts(code, begin)) == 1:
                            continue
                        meet = meeting(code, begin)
                        self.assertIsNotNone(meet)
                        front = {meet[0]}
                        for _ in range(time - meet[1]):
                            front = set().union(*[nexts(code, row) for row in front])
                        self.assertEqual(front, {to})
                        seen += 1
        self.assertGreater(seen, 300)


if __name__ == "__main__":
    unittest.main()
