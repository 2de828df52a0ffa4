"""Promise [62]."""
import unittest

from lookalike.checker import is_checked, paper_fault
from lookalike.compiling import compiled
from lookalike.labels import labelled
from lookalike.leastpapers import is_harmless, least_paper
from lookalike.machine import run_image
from lookalike.meetings import code_regions
from lookalike.orders import covered, order_of
from lookalike.papers import end_lots, is_paper
from lookalike.records import seen
from changedpapers import changed_papers
from evenimages import even_images, repaired_image
from plainpapers import plain_faults, plain_least
from randomimages import made_images
from randomprograms import made_programs
from test_checker import BOXES, ORDER, ROWS, SIDES, TWICE, at, one_thread
from test_meetings import END, PUSH, REST, changed_codes, jump, other


class ExampleTest(unittest.TestCase):
    def test_example(self):
        even = (("take", 1, 1), ("else", 4), ("rest",), ("jump", 6), ("rest",), ("rest",), ("push", 1, 1), ("out", 0), ("end",))
        order = order_of(2, [(0, 1)])
        image = (order, (), (), (((1,), even),))
        self.assertEqual((least_paper(image)[0][0][3], least_paper(image)[0][1], is_harmless(image)),
                         (((), ((),), (), 0, 1), ((1, 6, (1,), 2, None, 0),), True))


class LeastTest(unittest.TestCase):
    def check(self, image, entries, regions=(), end=()):
        """The least paper of one thread."""
        paper = least_paper(image=image)
        self.assertEqual(paper, ((tuple(entries), tuple(regions), end),))
        self.assertEqual(paper, plain_least(image))
        self.assertIs(is_harmless(image=image), not plain_faults(image, paper))
        return is_harmless(image)

    def none(self, *code, widths=()):
        image = one_thread(*code, widths=widths)
        self.assertIsNone(least_paper(image))
        self.assertIsNone(plain_least(image))
        self.assertIs(is_harmless(image), False)

    def test_no_region(self):
        image = one_thread(("take", 1, 4), ("keep", 1), ("take", 0, 4), ("local", 1), ("op", "add", 4), ("keep", 0), END, widths=(4, 4))
        none, kept = ((), ()), ((), (1,))
        self.assertTrue(self.check(image, [at((), none), at(((1,),), none), at((), kept), at(((0,),), kept), at(((0,), (1,)), kept),
                                           at(((0, 1),), kept), at((), ((0, 1), (1,)))]))

    def test_lots_of_boxes_and_rows(self):
        # They are taken as they are, whatever is put there.
        for number, lot in ((0, ()), (1, (0,)), (2, (1,)), (3, (0, 1))):
            for told in ((), (0,), (1,)):
                word = ("take", told[0], 4) if told else ("push", 4, 1)
                image = one_thread(word, ("fill", number), ("box", number), ("keep", 0), END, widths=(4,), order=SIDES)
                right = self.check(image, [at((), ((),)), at((told,), ((),)), at((), ((),)), at((lot,), ((),)), at((), (lot,))])
                self.assertIs(right, set(told) <= set(lot))
                together = tuple(sorted({*lot, *told}))
                image = one_thread(word, ("cell", number), ("keep", 0), END, widths=(4,), order=SIDES)
                self.assertTrue(self.check(image, [at((), ((),)), at((told,), ((),)), at((together,), ((),)), at((), (together,))]))

    def test_clocks(self):
        # A choice with no region lifts the clock for good, the end too.
        image = one_thread(("take", 1, 1), other(3), REST, END, order=SIDES)
        self.assertTrue(self.check(image, [at(), at(((1,),)), at(clock=(1,)), at(clock=(1,))], (), (1,)))
        image = one_thread(("take", 1, 1), other(3), REST, ("push", 1, 1), ("out", 0), END, order=SIDES)
        self.assertFalse(self.check(image, [at(), at(((1,),)), at(clock=(1,)), at(clock=(1,)), at(((),), clock=(1,)), at(clock=(1,))], (), (1,)))
        # A loop lifts its own clock, behind the choice and ahead of it.
        image = one_thread(("take", 0, 1), other(3), jump(0), END, order=SIDES)
        self.assertTrue(self.check(image, [at(clock=(0,)), at(((0,),), clock=(0,)), at(clock=(0,)), at(clock=(0,))], (), (0,)))
        # Two ends.
        image = one_thread(("take", 0, 1), other(6), ("take", 2, 1), other(5), END, END, END, order=SIDES)
        both = at(clock=(0, 2))
        self.assertTrue(self.check(image, [at(), at(((0,),)), at(clock=(0,)), at(((2,),), clock=(0,)), both, both, at(clock=(0,))], (), (0, 2)))

    def test_ends_without_entries(self):
        image = one_thread(("take", 0, 1), jump(3), END, other(5), END, jump(5), order=SIDES)
        self.assertTrue(self.check(image, [at(), at(((0,),)), None, at(((0,),)), at(clock=(0,)), at(clock=(0,))], (), (0,)))
        self.assertTrue(self.check(one_thread(END, END), [at(), None]))
        self.assertTrue(self.check(one_thread(jump(0), widths=(1,)), [at((), ((),))]))

    def test_regions(self):
        code = [("take", 0, 1), other(5), ("take", 1, 1), ("keep", 0), jump(8), ("push", 1, 1), ("keep", 1), REST, END]
        image = one_thread(*code, widths=(1, 1), order=SIDES)
        none, region = ((), ()), {"region": 0}
        entries = [at((), none), at(((0,),), none), at((), none, left=3, **region), at(((0, 1),), none, left=2, **region),
                   at((), ((0, 1), ()), left=1, **region), at((), none, left=3, **region), at(((0,),), none, left=2, **region),
                   at((), ((), (0,)), left=1, **region), at((), ((0, 1), (0,)))]
        # The take at row 2 shows which side is gone along.
        self.assertFalse(self.check(image, entries, [(1, 8, (0,), 3, None, 0)]))

    def test_regions_within_others(self):
        image = one_thread(*TWICE, widths=(1,), order=SIDES)
        inner, outer = {"region": 1}, {"region": 0}
        none = ((),)
        told = [at((), none), at(((1,),), none), at((), none, left=4, **outer), at(((1,),), none, left=3, **outer),
                at((), none, left=2, **inner), at((), none, left=1, **inner), at((), none, left=2, **inner), at((), none, left=1, **inner),
                at((), none, left=4, **outer), at((), none, left=3, **outer), at((), none, left=2, **outer), at(((1,),), none, left=1, **outer),
                at((), ((1,),))]
        self.assertTrue(self.check(image, told, [(1, 12, (1,), 4, None, 0), (3, 12, (1,), 2, 0, 0)]))
        # Something behind the inner one; and a word that adds a level to its lot alone.
        code = [("take", 1, 1), other(9), ("take", 0, 1), other(6), REST, jump(8), REST, REST, jump(14), REST, REST, REST, REST, REST, END]
        image = one_thread(*code, order=SIDES)
        paper = least_paper(image)
        self.assertEqual(paper, plain_least(image))
        self.assertEqual(paper[0][1], ((1, 14, (1,), 5, None, 0), (3, 8, (0, 1), 2, 0, 1)))
        self.assertEqual(paper[0][0][8], at(region=0, left=1))
        self.assertFalse(is_harmless(image))

    def test_lots_of_regions_that_grow(self):
        # A word that comes to the choice from behind adds a level to the region, and so to what is kept in it.
        code = [PUSH, other(11), ("take", 0, 1), other(7), ("push", 1, 1), ("keep", 0), jump(10), REST, REST, REST, END, ("take", 1, 1), jump(3)]
        image = one_thread(*code, widths=(1,), order=SIDES)
        none, both, region = ((),), (0, 1), {"region": 0}
        told = [at((), none), at(((),), none), at((), none), at((both,), none), at((), none, left=3, **region), at((both,), none, left=2, **region),
                at((), (both,), left=1, **region), *[at((), none, left=left, **region) for left in (3, 2, 1)], at((), (both,)), at((), none),
                at(((1,),), none)]
        self.assertTrue(self.check(image, told, [(3, 10, both, 3, None, 0)]))

    def test_words_below_the_one_of_a_choice(self):
        code = [("take", 0, 1), ("take", 1, 1), other(5), REST, jump(7), REST, REST, ("keep", 0), END]
        image = one_thread(*code, widths=(1,), order=SIDES)
        none, low = ((),), ((0,),)
        told = [at((), none), at(low, none), at(((0,), (1,)), none), *[at(low, none, region=0, left=left) for left in (2, 1, 2, 1)],
                at(low, none), at((), low)]
        self.assertTrue(self.check(image, told, [(2, 7, (1,), 2, None, 0)]))
        # The same with no region: the clock is lifted by the word on top alone.
        code = [("take", 0, 1), ("take", 1, 1), other(4), REST, ("keep", 0), END]
        lift = {"clock": (1,)}
        told = [at((), none), at(low, none), at(((0,), (1,)), none), at(low, none, **lift), at(low, none, **lift), at((), low, **lift)]
        self.assertTrue(self.check(one_thread(*code, widths=(1,), order=SIDES), told, (), (1,)))

    def test_choices_that_nothing_leads_to(self):
        code = [jump(7), PUSH, other(5), REST, jump(7), REST, REST, END]
        image = one_thread(*code, order=SIDES)
        self.assertTrue(self.check(image, [at(), *[None] * 6, at()], [(2, 7, (), 2, None, 0)]))
        # Ahead of one that something leads to, and around it.
        code = [jump(8), PUSH, other(6), REST, jump(16), END, REST, jump(16), ("take", 0, 1), other(13), REST, jump(16), END, REST, jump(16), END, END]
        image = one_thread(*code, order=SIDES)
        paper = least_paper(image)
        self.assertEqual(paper, plain_least(image))
        self.assertEqual(paper[0][1], ((2, 16, (), 2, None, 0), (9, 16, (0,), 2, None, 0)))
        self.assertTrue(is_harmless(image))

    def test_a_jump_leads_into_a_region(self):
        # So it is none: the clock is lifted there.
        code = [("take", 0, 1), other(4), REST, jump(6), REST, REST, ("push", 1, 1), ("out", 2), jump(4)]
        image = one_thread(*code, order=SIDES)
        self.assertEqual(code_regions(tuple(code)), ())
        lift = at(clock=(0,))
        self.assertTrue(self.check(image, [at(), at(((0,),)), *[lift] * 5, at(((),), clock=(0,)), lift]))

    def test_too_few_words(self):
        for act in (("keep", 0), ("fill", 0), ("cell", 0), ("cells", 0), ("op", "add", 4), ("out", 0), other(1)):
            self.none(act, END, widths=(4,))
            self.none(PUSH, ("keep", 0), act, END, widths=(4,))
        for act in (("cells", 0), ("op", "eq", 4)):
            self.none(PUSH, act, END)
        # But where nothing leads there, it does not matter.
        image = one_thread(jump(2), ("out", 0), END)
        self.assertTrue(self.check(image, [at(), None, at()]))

    def test_unlike_heights(self):
        self.none(PUSH, other(3), PUSH, END)
        self.none(PUSH, jump(0))
        self.none(REST, PUSH, jump(1))
        self.none(PUSH, other(5), PUSH, REST, jump(7), REST, REST, END)
        self.none(PUSH, PUSH, other(0), END)

    def test_a_later_region_around(self):
        # The inner choice stands ahead of the outer one.
        # From 9 on: 10, 1, 2, 3 or 5, 4 or 6, and 16; or 11 to 15, and 16.
        code = [jump(8), PUSH, other(5), REST, jump(16), REST, jump(16), END, PUSH, other(11), jump(1), REST, REST, REST, REST, jump(16), END]
        self.assertEqual(code_regions(tuple(code)), ((2, 16, 2), (9, 16, 5)))
        self.none(*code)
        # The same with the outer choice ahead.
        code = [PUSH, other(9), jump(3), PUSH, other(7), REST, jump(14), REST, jump(14), REST, REST, REST, REST, jump(14), END]
        self.assertEqual(code_regions(tuple(code)), ((1, 14, 5), (4, 14, 2)))
        self.assertEqual(least_paper(one_thread(*code))[0][1], ((1, 14, (), 5, None, 0), (4, 14, (), 2, 0, 0)))

    def test_one_thread_without(self):
        fine, wrong = ((), (END,)), ((), (("out", 0), END))
        self.assertIsNone(least_paper((ORDER, BOXES, ROWS, (fine, wrong))))
        self.assertIsNone(least_paper((ORDER, BOXES, ROWS, (wrong, fine))))
        self.assertEqual(least_paper((ORDER, BOXES, ROWS, (fine, fine))), (((at(),), (), ()),) * 2)

    def test_not_checked(self):
        image = one_thread(("take", 1, 4), ("out", 0), END)
        self.assertFalse(self.check(image, [at(), at(((1,),)), at()]))
        image = one_thread(("take", 1, 4), ("out", 1), END)
        self.assertTrue(self.check(image, [at(), at(((1,),)), at()]))

    def test_made_ones(self):
        found = {None: 0, True: 0, False: 0}
        images = [image for _, image in made_images(300)] + [image for _, image in even_images(60, depth=2)]
        images += [(ORDER, (), (), (((4,), code),)) for code in changed_codes(150) if not any(part[0] in ("box", "fill", "cell", "cells", "local", "keep")
                   or part[0] in ("out", "take") and part[1] > 1 for part in code)]
        for image in images:
            paper = least_paper(image)
            self.assertEqual(paper, plain_least(image))
            if paper is None:
                self.assertIs(is_harmless(image), False)
                found[None] += 1
                continue
            self.assertTrue(is_paper(image, paper))
            for (_, code), (_, regions, _) in zip(image[3], paper):
                self.assertEqual(tuple((begin, to, time) for begin, to, _, time, _, _ in regions), code_regions(code))
            right = not plain_faults(image, paper)
            self.assertIs(is_harmless(image), right)
            self.assertIs(is_checked(image, paper), right)
            found[right] += 1
        self.assertGreater(min(found.values()), 30)

    def test_it_is_covered_by_each_checked_paper(self):
        seen_ones = 0
        for maker, image in even_images(60, depth=2):
            image = repaired_image(image)
            least = least_paper(image)
            self.assertIs(is_harmless(image), True)
            for paper in changed_papers(maker, image, least, 24):
                shape = [[(begin, to, time) for begin, to, _, time, _, _ in regions] for _, regions, _ in paper]
                if shape != [[region for region in code_regions(code)] for _, code in image[3]] or not is_checked(image, paper):
                    continue
                for (entries, regions, end), (others, other_regions, other_end) in zip(least, paper):
                    pairs = [(end, other_end)]
                    pairs += [(one[2], two[2]) for one, two in zip(regions, other_regions) if others[one[0]] is not None]
                    for one, two in zip(entries, others):
                        if one is not None:
                            self.assertIsNotNone(two)
                            pairs += [*zip(one[0], two[0]), *zip(one[1], two[1]), (one[2], two[2])]
                    for one, two in pairs:
                        self.assertTrue(covered(image[0], one, two))
                seen_ones += paper != least
        self.assertGreater(seen_ones, 100)

    def test_not_harmless_means_no_checked_paper(self):
        # No paper with these regions, made by changes, is checked.
        tried = 0
        for maker, image in even_images(60, depth=1):
            least = least_paper(image)
            if is_harmless(image):
                continue
            for paper in changed_papers(maker, image, least, 24):
                shape = [tuple((begin, to, time) for begin, to, _, time, _, _ in regions) for _, regions, _ in paper]
                if shape == [code_regions(code) for _, code in image[3]]:
                    self.assertFalse(is_checked(image, paper))
                    tried += 1
        self.assertGreater(tried, 200)

    def test_whoever_wrote_a_harmless_image(self):
        runs = 0
        images = [(maker, compiled(labelled(program))) for maker, program in made_programs(150, told=False)]
        for maker, image in [*images, *((maker, repaired_image(image)) for maker, image in even_images(40, depth=2))]:
            if is_harmless(image):
                ends = end_lots(least_paper(image))
                for level in range(len(image[0])):
                    one, other = [[tuple(maker.random.choice([0, 1, 5]) for _ in range(4)) for _ in image[0]] for _ in range(2)]
                    other = [one[low] if low in image[0][level] else other[low] for low in range(len(image[0]))]
                    shown = [seen(image[0], level, ends, run_image(image, tuple(part), 120)) for part in (one, other)]
                    self.assertEqual(*shown)
                    runs += 1
            else:
                self.assertIsNotNone(paper_fault(image, least_paper(image)))
        self.assertGreater(runs, 100)

    def test_large_ones(self):
        code = []
        for at_row in range(0, 2900, 8):
            code += [("take", at_row % 3, 4), other(at_row + 4), REST, jump(at_row + 6), REST, REST, ("push", 4, 1), ("keep", at_row // 8 % 30)]
        image = one_thread(*code, END, widths=(4,) * 30, order=SIDES)
        self.assertTrue(is_paper(image, least_paper(image)))
        self.assertTrue(is_harmless(image))


if __name__ == "__main__":
    unittest.main()
