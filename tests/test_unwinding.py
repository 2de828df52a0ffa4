"""Promises [57] to [59]."""
import unittest

from lookalike.checker import is_checked
from lookalike.leastpapers import least_paper
from lookalike.machine import advance
from lookalike.orders import order_of
from lookalike.states import start_state
from lookalike.unwinding import alike_states, fits_paper, hidden_region, slots_left, unlike_part
from changedpapers import changed_papers
from evenimages import harmless_images
from plainpapers import plain_fits, plain_hidden, plain_left, plain_unlike
from test_checker import IMAGE, PAPER, at, of, one_thread
from wrongvalues import replaced

CHAIN = order_of(3, [(0, 1), (1, 2)])


class ExampleTest(unittest.TestCase):
    def test_example(self):
        order = order_of(2, [(0, 1)])
        image = (order, (), (), (((1,), (("take", 1, 1), ("else", 4), ("rest",), ("jump", 6), ("rest",), ("rest",), ("push", 1, 1), ("out", 0), ("end",))),))
        at = lambda left: ((), ((),), (), None if left == 0 else 0, left)
        paper = (((at(0), (((1,),), ((),), (), None, 0), at(2), at(1), at(2), at(1), at(0), (((),), ((),), (), None, 0), at(0)), ((1, 6, (1,), 2, None, 0),), ()),)
        self.assertEqual((hidden_region(image, paper, 0, 0, 3), hidden_region(image, paper, 1, 0, 3), slots_left(paper, 0, 3, 0)), (0, None, 1))
        one, other = advance(image, start_state(image, ((), (0,))), 3)[0], advance(image, start_state(image, ((), (1,))), 3)[0]
        self.assertEqual((one[4], other[4], alike_states(image, paper, 0, one, other), unlike_part(image, paper, 1, one, other)),
                         (((5, (), (0,)),), ((3, (), (0,)),), True, ('thread', 0)))


class FitTest(unittest.TestCase):
    def test_rows_and_heights(self):
        for row, stack, fits in ((0, (), True), (0, (1,), False), (1, (1,), True), (1, (), False), (1, (1, 2), False), (7, (1,), True)):
            state = (5, (), (), ((), ()), ((row, stack, (0,)),))
            self.assertIs(fits_paper(image=IMAGE, paper=PAPER, state=state), fits, (row, stack))
        self.assertIs(fits_paper(IMAGE, PAPER, (5, (), (), ((), ()), (None,))), True)
        less = replaced(PAPER, (0, 0, 3), None)
        self.assertIs(fits_paper(IMAGE, less, (5, (), (), ((), ()), ((3, (), (0,)),))), False)
        self.assertIs(fits_paper(IMAGE, less, (5, (), (), ((), ()), ((2, (), (0,)),))), True)

    def test_each_thread(self):
        image = (IMAGE[0], (), (), (*IMAGE[3], *IMAGE[3]))
        paper = PAPER * 2
        for one in (None, (0, (), (0,)), (1, (1,), (0,)), (1, (), (0,))):
            for other in (None, (0, (), (0,)), (1, (1,), (0,)), (0, (1,), (0,))):
                right = one != (1, (), (0,)) and other != (0, (1,), (0,))
                self.assertIs(fits_paper(image, paper, (5, (), (), ((), ()), (one, other))), right)

    def test_states_of_runs(self):
        for maker, image in harmless_images(40, depth=2):
            paper = least_paper(image)
            inputs = maker.few_words()
            state = start_state(image, inputs)
            for _ in range(80):
                self.assertTrue(fits_paper(image, paper, state))
                state = advance(image, state, 1)[0]


# Regions within one another, in any order of lots: 0 with (1,) around all, 1 with (2,) in it, 2 with () in this, 3 with (1,) beside it.
DEEP = [("else", 1)] * 7 + [("rest",)] * 4 + [("end",)]
REGIONS = ((0, 9, (1,), 60, None, 0), (2, 9, (2,), 20, 0, 30), (3, 9, (), 5, 1, 7), (5, 9, (1,), 9, 0, 3), (6, 9, (0,), 2, None, 0))
DEEP_IMAGE = one_thread(*DEEP, order=CHAIN)
DEEP_PAPER = of([None, at(region=0, left=50), at(region=1, left=11), at(region=2, left=4), at(region=3, left=2), at(region=4, left=1),
                 at(), *[None] * 5], REGIONS)


class RegionTest(unittest.TestCase):
    def test_hidden(self):
        for level, told in ((0, (0, 0, 0, 0, None, None)), (1, (None, 1, 1, None, None, None)), (2, (None,) * 6)):
            for row, number in enumerate(told, 1):
                self.assertEqual(hidden_region(image=DEEP_IMAGE, paper=DEEP_PAPER, level=level, thread=0, row=row), number, (level, row))

    def test_slots(self):
        for row, region, left in ((1, 0, 50), (2, 1, 11), (2, 0, 41), (3, 2, 4), (3, 1, 11), (3, 0, 41), (4, 3, 2), (4, 0, 5), (5, 4, 1)):
            self.assertEqual(slots_left(paper=DEEP_PAPER, thread=0, row=row, region=region), left, (row, region))

    def test_made_ones(self):
        found = {True: 0, False: 0}
        for maker, image in harmless_images(30, depth=3, even=1, whiles=0):
            for paper in [least_paper(image), *changed_papers(maker, image, least_paper(image), 3)]:
                for thread, (entries, regions, _) in enumerate(paper):
                    for row, entry in enumerate(entries):
                        if entry is None:
                            continue
                        for level in range(len(image[0])):
                            hidden = hidden_region(image, paper, level, thread, row)
                            self.assertEqual(hidden, plain_hidden(image, paper, level, thread, row))
                            found[hidden is None] += 1
                        number = entry[3]
                        while number is not None:
                            self.assertEqual(slots_left(paper, thread, row, number), plain_left(paper, thread, row, number))
                            number = regions[number][4]
        self.assertGreater(min(found.values()), 300)

    def test_regions_within_hidden_ones(self):
        inner = 0
        for _, image in harmless_images(40, depth=3, even=1, whiles=0):
            paper = least_paper(image)
            self.assertTrue(is_checked(image, paper))
            for thread, (entries, regions, _) in enumerate(paper):
                for row, entry in enumerate(entries):
                    for level in range(len(image[0])):
                        hidden = None if entry is None else hidden_region(image, paper, level, thread, row)
                        number = None if entry is None else entry[3]
                        while hidden is not None and number != hidden:
                            self.assertNotEqual(set(regions[number][2]) - set(image[0][level]), set())
                            number = regions[number][4]
                            inner += 1
        self.assertGreater(inner, 100)

    def test_each_instruction_takes_one_of_the_slots(self):
        steps = 0
        for maker, image in harmless_images(40, depth=3, even=1, whiles=0):
            paper = least_paper(image)
            state = start_state(image, maker.few_words())
            for _ in range(150):
                thread = state[0] % len(image[3])
                behind = advance(image, state, 1)[0]
                ahead, next_one = state[4][thread], behind[4][thread]
                for level in range(len(image[0])):
                    hidden = None if ahead is None else hidden_region(image, paper, level, thread, ahead[0])
                    if hidden is None:
                        continue
                    left = slots_left(paper, thread, ahead[0], hidden)
                    new = hidden_region(image, paper, level, thread, next_one[0])
                    if left > 1:
                        self.assertEqual(new, hidden)
                        self.assertEqual(slots_left(paper, thread, next_one[0], hidden), left - 1)
                    else:
                        self.assertEqual(next_one[0], paper[thread][1][hidden][1])
                    steps += 1
                state = behind
        self.assertGreater(steps, 300)


class AlikeTest(unittest.TestCase):
    def state(self, *threads, tick=5, boxes=(1, 2, 3, 4), rows=((1, 1), (2, 2), (3, 3), (4, 4)), streams=((1,), (2,), (3,))):
        return (tick, boxes, rows, streams, tuple(threads))

    def check(self, image, paper, level, one, other, *parts):
        """Whether these are all unlike parts."""
        self.assertEqual(plain_unlike(image, paper, level, one, other), list(parts))
        for here, there in ((one, other), (other, one)):
            self.assertEqual(unlike_part(image=image, paper=paper, level=level, one=here, other=there), parts[0] if parts else None)
            self.assertIs(alike_states(image=image, paper=paper, level=level, one=here, other=there), not parts)

    def test_shared_parts(self):
        image = (CHAIN, (((1,), 4, 0), ((), 4, 0), ((2,), 4, 0)), (((2,), 4, 2), ((0, 1), 4, 2), ((), 4, 2)), (((), (("end",),)),))
        paper = of([at()])
        base = self.state(None)
        self.check(image, paper, 1, base, base)
        self.check(image, paper, 1, base, self.state(None, tick=6), ("tick",))
        self.check(image, paper, 1, base, self.state(None, boxes=(1, 2, 9)))
        self.check(image, paper, 1, base, self.state(None, boxes=(9, 9, 9)), ("box", 0), ("box", 1))
        self.check(image, paper, 0, base, self.state(None, boxes=(9, 9, 9)), ("box", 1))
        self.check(image, paper, 2, base, self.state(None, boxes=(1, 2, 9)), ("box", 2))
        self.check(image, paper, 1, base, self.state(None, rows=((9, 9), (2, 2), (3, 3))))
        self.check(image, paper, 1, base, self.state(None, rows=((9, 9), (2, 9), (3, 9))), ("row", 1), ("row", 2))
        self.check(image, paper, 0, base, self.state(None, rows=((9, 9), (2, 9), (3, 9))), ("row", 2))
        self.check(image, paper, 1, base, self.state(None, streams=((1,), (2,), ())))
        self.check(image, paper, 1, base, self.state(None, streams=((1, 0), (), ())), ("stream", 0), ("stream", 1))
        self.check(image, paper, 0, base, self.state(None, streams=((1,), (), ())))
        self.check(image, paper, 1, base, self.state((0, (), ()), tick=6, boxes=(0, 0, 0), rows=((0, 0),) * 3, streams=((), (), ())),
                   ("tick",), ("box", 0), ("box", 1), ("row", 1), ("row", 2), ("stream", 0), ("stream", 1), ("thread", 0))

    def test_ended_threads(self):
        image = one_thread(("rest",), ("rest",), ("end",), order=CHAIN)
        paper = of([at(), at(clock=(1,)), at(clock=(2,))])
        ended, first, second, third = (self.state(part) for part in (None, (0, (), ()), (1, (), ()), (2, (), ())))
        for level, alike in ((0, (second, third)), (1, (third,)), (2, ())):
            self.check(image, paper, level, ended, ended)
            for state in (first, second, third):
                self.check(image, paper, level, ended, state, *(() if state in alike else (("thread", 0),)))

    def test_clocks(self):
        image = one_thread(*[("rest",)] * 3, ("end",), order=CHAIN)
        paper = of([at(((),)), at(((),), clock=(1,)), at(((),), clock=(2,)), at(((),), clock=(1, 2))])
        rows = [self.state((row, (row,), ())) for row in range(4)]
        for level, hidden in ((0, (1, 2, 3)), (1, (2, 3)), (2, ())):
            for here in range(4):
                for there in range(4):
                    alike = here == there or here in hidden and there in hidden
                    self.check(image, paper, level, rows[here], rows[there], *(() if alike else (("thread", 0),)))

    def test_in_step(self):
        # No region is hidden: one row, and the words that are seen.
        image = one_thread(*[("rest",)] * 2, ("end",), widths=(4, 4, 4), order=CHAIN)
        entry = at(((), (2,), (1,)), ((1,), (), (2,)), (0,))
        paper = of([entry, entry, None])
        base = self.state((0, (1, 2, 3), (4, 5, 6)))
        self.check(image, paper, 1, base, base)
        self.check(image, paper, 1, base, self.state((1, (1, 2, 3), (4, 5, 6))), ("thread", 0))
        for stack, places, levels in (((9, 2, 3), (4, 5, 6), (0, 1, 2)), ((1, 9, 3), (4, 5, 6), (2,)), ((1, 2, 9), (4, 5, 6), (1, 2)),
                                      ((1, 2, 3), (9, 5, 6), (1, 2)), ((1, 2, 3), (4, 9, 6), (0, 1, 2)), ((1, 2, 3), (4, 5, 9), (2,)),
                                      ((1, 9, 3), (4, 5, 9), (2,)), ((1, 9, 9), (9, 5, 9), (1, 2))):
            for level in range(3):
                self.check(image, paper, level, base, self.state((0, stack, places)), *((("thread", 0),) if level in levels else ()))

    def test_regions_that_are_seen(self):
        # In a region within the level both stand at one row all the same.
        image = one_thread(("else", 1), ("rest",), ("rest",), ("end",), order=CHAIN)
        paper = of([at(((),)), at(region=0, left=2), at(region=0, left=2), None], [(0, 3, (1,), 2, None, 0)])
        one, other = self.state((1, (), ())), self.state((2, (), ()))
        for level in range(3):
            self.check(image, paper, level, one, one)
            self.check(image, paper, level, one, other, *((("thread", 0),) if level > 0 else ()))

    def test_hidden_regions(self):
        image = one_thread(("else", 1), ("else", 2), *[("rest",)] * 8, ("end",), widths=(4,), order=CHAIN)
        regions = [(0, 9, (1,), 20, None, 0), (1, 9, (2,), 4, 0, 3)]
        entries = [at(((),), ((),)), at(((), (1,)), ((),), region=0, left=5), at(((),), ((),), region=1, left=2),
                   at(((), ()), ((1,),), region=0, left=5), at(((),), ((),), region=1, left=5), at(((1,),), ((),), region=0, left=8),
                   *[None] * 5]
        paper = of(entries, regions)
        states = {row: self.state((row, (7,) * len(entries[row][0]), (8,))) for row in range(1, 6)}
        # For level 0 the first region is hidden: 5, 2 and 3, 5, 5 and 3, 8 slots are left.
        for here, there, alike in ((1, 2, True), (1, 3, True), (1, 4, False), (2, 3, True), (4, 5, True), (3, 5, False), (1, 1, True)):
            self.check(image, paper, 0, states[here], states[there], *(() if alike else (("thread", 0),)))
        # For level 1 the second one is, and rows outside of it are not.
        for here, there, alike in ((2, 2, True), (2, 4, False), (1, 2, False), (1, 3, False), (3, 3, True)):
            self.check(image, paper, 1, states[here], states[there], *(() if alike else (("thread", 0),)))
        # Words that are seen in both, from the bottom on: heights may be unlike.
        self.check(image, paper, 0, self.state((1, (7, 1), (8,))), self.state((2, (7,), (8,))))
        self.check(image, paper, 0, self.state((1, (7, 1), (8,))), self.state((2, (6,), (8,))), ("thread", 0))
        self.check(image, paper, 0, self.state((1, (7, 1), (8,))), self.state((3, (7, 2), (8,))))
        self.check(image, paper, 0, self.state((1, (7, 1), (8,))), self.state((3, (7, 1), (9,))))
        self.check(image, paper, 0, self.state((1, (7, 1), (8,))), self.state((2, (7,), (9,))), ("thread", 0))
        self.check(image, paper, 0, self.state((4, (7,), (8,))), self.state((5, (6,), (8,))))

    def test_hidden_regions_and_clocks(self):
        # One clock is seen and the other one is not: so the thread is not alike, although as much of one region is left.
        image = one_thread(("else", 1), *[("rest",)] * 3, ("end",), order=CHAIN)
        regions = [(0, 4, (2,), 3, None, 0)]
        paper = of([None, at(region=0, left=2), at(clock=(1,), region=0, left=2), at(clock=(1,), region=0, left=3), None], regions)
        states = {row: self.state((row, (), ())) for row in (1, 2, 3)}
        for level, here, there, alike in ((0, 1, 2, False), (1, 1, 2, True), (0, 2, 3, True), (1, 2, 3, False), (2, 1, 2, False)):
            self.check(image, paper, level, states[here], states[there], *(() if alike else (("thread", 0),)))

    def test_several_threads(self):
        image = (CHAIN, (), (), (((), (("rest",), ("end",))),) * 3)
        paper = of([at(), at()]) * 3
        base = self.state((0, (), ()), (1, (), ()), None)
        self.check(image, paper, 0, base, base)
        self.check(image, paper, 0, base, self.state((0, (), ()), (0, (), ()), (0, (), ())), ("thread", 1), ("thread", 2))
        self.check(image, paper, 0, base, self.state(None, (1, (), ()), (0, (), ())), ("thread", 0), ("thread", 2))

    def test_states_of_runs(self):
        found = {True: 0, False: 0}
        for maker, image in harmless_images(50, depth=2):
            paper = least_paper(image)
            inputs = maker.few_words()
            states = []
            for level in range(len(image[0])):
                state = start_state(image, maker.alike_input(inputs, level))
                for _ in range(maker.random.randint(0, 60)):
                    state = advance(image, state, 1)[0]
                    states.append(state)
            for _ in range(60):
                one, other = maker.random.choice(states or [start_state(image, inputs)]), maker.random.choice(states or [start_state(image, inputs)])
                if maker.flip(0.7):
                    other = (one[0], *other[1:])
                self.assertTrue(plain_fits(image, paper, one) and fits_paper(image, paper, other))
                for level in range(len(image[0])):
                    parts = plain_unlike(image, paper, level, one, other)
                    self.assertEqual(unlike_part(image, paper, level, one, other), parts[0] if parts else None)
                    self.assertIs(alike_states(image, paper, level, one, other), not parts)
                    self.assertTrue(alike_states(image, paper, level, one, one))
                    found[not parts] += 1
        self.assertGreater(min(found.values()), 100)


if __name__ == "__main__":
    unittest.main()
