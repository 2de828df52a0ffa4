"""Promises [52] and [53]."""
import unittest

from lookalike.orders import is_lot, order_of
from lookalike.papers import end_lots, is_paper, landing, veil
from randomimages import made_images
from wrongvalues import NO_NUMBERS, NO_TUPLES, of_other_kinds, otherwise, parts_of, replaced

ORDER = order_of(2, [(0, 1)])
EVEN = (("take", 1, 1), ("else", 4), ("rest",), ("jump", 6), ("rest",), ("rest",), ("push", 1, 1), ("out", 0), ("end",))
IMAGE = (ORDER, (), (), (((1,), EVEN),))


def at(left):
    return ((), ((),), (), None if left == 0 else 0, left)


TAKEN = (((1,),), ((),), (), None, 0)
PAPER = (((at(0), TAKEN, at(2), at(1), at(2), at(1), at(0), (((),), ((),), (), None, 0), at(0)), ((1, 6, (1,), 2, None, 0),), ()),)
# Two threads, the first one with choices within one another.
DEEP_CODE = (("push", 1, 1), ("else", 9), ("push", 1, 1), ("else", 7), ("push", 1, 1), ("else", 6), ("rest",), ("rest",), ("rest",), ("end",))
DEEP = (ORDER, (), (), (((4, 1), DEEP_CODE), ((), (("end",),))))
REGIONS = ((1, 9, (0,), 8, None, 0), (3, 9, (0, 1), 4, 0, 3), (5, 7, (1,), 1, 1, 0))
INNER = (((), (0,)), ((0,), (1,)), (1,), 2, 5)
DEEP_PAPER = (((None, INNER, (((),), ((), ()), (), 1, 1), None, None, None, None, ((), ((), ()), (), None, 0), None, None), REGIONS, (0, 1)),
              ((None,), (), (1,)))


def plain_is_paper(image, value):
    order, _, _, threads = image

    def tuples(part, many=None):
        return part.__class__ is tuple and many in (None, len(part))

    def number(part):
        return part.__class__ is int and part >= 0

    def lots(part):
        return tuples(part) and all(is_lot(order, lot) for lot in part)

    def region(part, index, code):
        if not tuples(part, 6) or not all(map(number, (part[0], part[1], part[3], part[5]))) or not is_lot(order, part[2]):
            return False
        begin, end, _, time, around, behind = part
        inside = around is None and behind == 0 or number(around) and around < index
        return begin < len(code) and end < len(code) and code[begin][0] == "else" and time > 0 and inside

    def entry(part, widths, regions):
        if part is None:
            return True
        if not tuples(part, 5) or not lots(part[0]) or not lots(part[1]) or not is_lot(order, part[2]) or not number(part[4]):
            return False
        inside = part[3] is None and part[4] == 0 or number(part[3]) and part[3] < len(regions) and part[4] > 0
        return len(part[1]) == len(widths) and inside

    def thread(part, widths, code):
        return (tuples(part, 3) and tuples(part[0], len(code)) and tuples(part[1]) and is_lot(order, part[2])
                and all(region(inner, index, code) for index, inner in enumerate(part[1]))
                and all(one[0] < other[0] for one, other in zip(part[1], part[1][1:]))
                and all(entry(inner, widths, part[1]) for inner in part[0]))

    return tuples(value, len(threads)) and all(thread(part, *told) for part, told in zip(value, threads))


class PaperTest(unittest.TestCase):
    def test_right_ones(self):
        self.assertIs(is_paper(image=IMAGE, value=PAPER), True)
        self.assertIs(is_paper(DEEP, DEEP_PAPER), True)
        nothing = ((None,) * 9, (), ())
        self.assertIs(is_paper(IMAGE, (nothing,)), True)
        self.assertIs(is_paper(DEEP, (((None,) * 10, REGIONS[:1], ()), ((None,), (), ()))), True)

    def test_entries(self):
        for entry, right in ((None, True), (((), ((),), (), None, 0), True), (((), ((),), (), None, 1), False),
                             (((), ((),), (), 0, 0), False), (((), ((),), (), 0, 1), True), (((), ((),), (), 0, 10 ** 9), True),
                             (((), ((),), (), 1, 1), False), (((), ((),), (), -1, 1), False), (((), ((),), (), True, 1), False),
                             (((), ((),), (), False, 1), False), (((), ((),), (), 0, True), False), (((), ((),), (), None, False), False),
                             (((), (), (), None, 0), False), (((), ((), ()), (), None, 0), False), (((), ((2,),), (), None, 0), False),
                             ((((0,), (), (0, 1)), ((1,),), (0,), None, 0), True), ((((1, 0),), ((1,),), (0,), None, 0), False),
                             (((None,), ((1,),), (0,), None, 0), False), (((), ((1,),), (0, 0), None, 0), False),
                             (((), ((1,),), None, None, 0), False), (((), ((1,),), 0, None, 0), False), (((), ((),), (), None), False),
                             (((), ((),), (), None, 0, 0), False), ((), False), (0, False), ([(), ((),), (), None, 0], False)):
            for row in (0, 4, 8):
                self.assertIs(is_paper(IMAGE, replaced(PAPER, (0, 0, row), entry)), right, entry)

    def test_regions(self):
        for regions, right in (((), True), (REGIONS, True), (REGIONS[:2], True), (REGIONS[1:], False), (REGIONS[::-1], False),
                               ((REGIONS[0], REGIONS[0]), False), (((1, 0, (), 1, None, 0),), True), (((0, 9, (), 1, None, 0),), False),
                               (((10, 9, (), 1, None, 0),), False), (((1, 10, (), 1, None, 0),), False), (((1, 9, (), 0, None, 0),), False),
                               (((1, 9, (2,), 1, None, 0),), False), (((1, 9, (), 1, None, 1),), False), (((1, 9, (), 1, 0, 1),), False),
                               (((1, 9, None, 1, None, 0),), False), (((True, 9, (), 1, None, 0),), False), (((1, 9, (), True, None, 0),), False),
                               (((1, True, (), 1, None, 0),), False), (((1, 9, (), 1, None, False),), False), (((1, 9, (), 1, None),), False),
                               ((REGIONS[0], (3, 9, (), 1, False, 0)), False), ((REGIONS[0], (3, 9, (), 1, 0, 0)), True),
                               ((REGIONS[0], (3, 9, (), 1, 1, 0)), False), ((REGIONS[0], (3, 9, (), 1, 0, 10 ** 9)), True),
                               ((REGIONS[0], (3, 9, (), 1, 0, -1)), False), ((REGIONS[0], (5, 9, (), 1, None, 0)), True),
                               ((REGIONS[0], (7, 9, (), 1, None, 0)), False), (list(REGIONS), False), (([*REGIONS[0]],), False)):
            value = (((None,) * 10, regions, ()), DEEP_PAPER[1])
            self.assertIs(is_paper(DEEP, value), right, regions)

    def test_threads(self):
        one, other = DEEP_PAPER
        for value, right in ((DEEP_PAPER, True), ((one,), False), ((one, other, other), False), ((other, one), False), ((), False),
                             ((one, ((None,), (), (0,))), True), ((one, ((None,), (), (2,))), False), ((one, ((None,), (), None)), False),
                             ((one, ((), (), ())), False), ((one, ((None, None), (), ())), False), ((one, ((None,), ())), False),
                             ((one, ((None,), (), (), ())), False), ([one, other], False), ((one, [*other]), False)):
            self.assertIs(is_paper(DEEP, value), right, value)

    def test_wrong_values(self):
        for image, paper in ((IMAGE, PAPER), (DEEP, DEEP_PAPER)):
            for value in (*NO_TUPLES, *of_other_kinds(paper)):
                self.assertIs(is_paper(image, value), False, value)
            right = 0
            for value in otherwise(paper):
                self.assertIs(is_paper(image, value), plain_is_paper(image, value), value)
                right += is_paper(image, value)
            self.assertGreater(right, 30)

    def test_made_ones(self):
        found = [0, 0]
        for maker, image in made_images(150, most_rows=8):
            paper = tuple(self.thread_paper(maker, widths, code) for widths, code in image[3])
            self.assertIs(is_paper(image, paper), True)
            paths = [path for path, _ in parts_of(paper)]
            for _ in range(30):
                part = maker.random.choice([None, 0, 1, 2, 7, True, (), (0,), (1,), (0, 1), ((),), ((), ()), maker.random.choice(NO_NUMBERS)])
                value = replaced(paper, maker.random.choice(paths), part)
                self.assertIs(is_paper(image, value), plain_is_paper(image, value), value)
                found[is_paper(image, value)] += 1
        self.assertGreater(min(found), 300)

    def thread_paper(self, maker, widths, code):
        choose = maker.random
        regions = []
        for row, part in enumerate(code):
            if part[0] == "else" and choose.random() < 0.7:
                around = choose.choice([None, *range(len(regions))])
                regions.append((row, choose.randrange(len(code)), maker.lot(), choose.randint(1, 9), around,
                                0 if around is None else choose.randint(0, 3)))
        entries = []
        for _ in code:
            number = choose.choice([None, *range(len(regions))])
            stack = tuple(maker.lot() for _ in range(choose.randint(0, 2)))
            entry = (stack, tuple(maker.lot() for _ in widths), maker.lot(), number, 0 if number is None else choose.randint(1, 9))
            entries.append(choose.choice([entry, entry, None]))
        return (tuple(entries), tuple(regions), maker.lot())


class PartsTest(unittest.TestCase):
    def test_ends(self):
        self.assertEqual(end_lots(paper=PAPER), ((),))
        self.assertEqual(end_lots(DEEP_PAPER), ((0, 1), (1,)))

    def test_landings(self):
        self.assertEqual([landing(regions=REGIONS, number=number) for number in range(3)], [(None, 0), (0, 3), (0, 3)])
        several = ((1, 9, (), 9, None, 0), (2, 9, (), 5, 0, 0), (3, 9, (), 3, 1, 0), (4, 9, (), 1, 2, 0), (5, 9, (), 1, 2, 4),
                   (6, 9, (), 1, 4, 0), (7, 9, (), 1, 5, 0))
        self.assertEqual([landing(several, number) for number in range(7)], [(None, 0)] * 4 + [(2, 4)] * 3)

    def test_veils(self):
        self.assertEqual([veil(regions=REGIONS, number=number) for number in (None, 0, 1, 2)], [(), (0,), (0, 1), (1,)])
        self.assertEqual(veil((), None), ())

    def test_made_ones(self):
        for maker, image in made_images(80):
            for widths, code in image[3]:
                regions = PaperTest.thread_paper(self, maker, widths, code)[1]
                for number, region in enumerate(regions):
                    told = region[4:]
                    if told[0] is not None and told[1] == 0:
                        told = landing(regions, told[0])
                    self.assertEqual(landing(regions, number), told)
                    self.assertEqual(veil(regions, number), region[2])


if __name__ == "__main__":
    unittest.main()
