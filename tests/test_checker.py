"""Promises [54] to [56]."""
import unittest

from lookalike.checker import is_checked, paper_fault, row_fault
from lookalike.code import is_image
from lookalike.errors import InvalidPaper
from lookalike.leastpapers import least_paper
from lookalike.orders import order_of
from lookalike.papers import is_paper
from changedpapers import changed_image, changed_papers, other_lot
from evenimages import even_images, repaired_image
from plainpapers import nexts, plain_faults
from wrongvalues import NO_TUPLES, of_other_kinds, otherwise, replaced

ORDER = order_of(2, [(0, 1)])
# Two levels that do not see each other, and one that sees both.
SIDES = order_of(3, [(0, 2), (1, 2)])
BOXES = (((), 4, 0), ((0,), 4, 0), ((1,), 4, 0), ((0, 1), 4, 0))
ROWS = (((), 4, 2), ((0,), 4, 2), ((1,), 4, 2), ((0, 1), 4, 2))
EVEN = (("take", 1, 1), ("else", 4), ("rest",), ("jump", 6), ("rest",), ("rest",), ("push", 1, 1), ("out", 0), ("end",))
IMAGE = (ORDER, (), (), (((1,), EVEN),))


def at(stack=(), places=(), clock=(), region=None, left=0):
    return (stack, places, clock, region, left)


def one_thread(*code, widths=(), order=ORDER):
    return (order, BOXES, ROWS, ((widths, tuple(code)),))


def of(entries, regions=(), end=()):
    return ((tuple(entries), tuple(regions), end),)


def one(left):
    return at(places=((),), region=None if left == 0 else 0, left=left)


TAKEN = at(((1,),), ((),))
ENTRIES = (one(0), TAKEN, one(2), one(1), one(2), one(1), one(0), at(((),), ((),)), one(0))
REGION = (1, 6, (1,), 2, None, 0)
PAPER = of(ENTRIES, [REGION])


def with_entry(row, entry):
    return replaced(PAPER, (0, 0, row), entry)


# A choice within a side of another one, which ends where this one ends, and behind both nothing is left.
TWICE = (("take", 1, 1), ("else", 8), ("take", 1, 1), ("else", 6), ("rest",), ("jump", 12), ("rest",), ("jump", 12),
         ("rest",), ("rest",), ("push", 1, 0), ("keep", 0), ("end",))


class ExampleTest(unittest.TestCase):
    def test_example(self):
        order = order_of(2, [(0, 1)])
        image = (order, (), (), (((1,), (("take", 1, 1), ("else", 4), ("push", 1, 1), ("keep", 0), ("end",))),))
        even = (order, (), (), (((1,), (("take", 1, 1), ("else", 4), ("rest",), ("jump", 6), ("rest",), ("rest",), ("push", 1, 1), ("out", 0), ("end",))),))
        at = lambda left: ((), ((),), (), None if left == 0 else 0, left)
        paper = (((at(0), (((1,),), ((),), (), None, 0), at(2), at(1), at(2), at(1), at(0), (((),), ((),), (), None, 0), at(0)), ((1, 6, (1,), 2, None, 0),), ()),)
        self.assertEqual((is_checked(even, paper), paper_fault(image, (((((), ((),), (), None, 0), (((1,),), ((),), (), None, 0), at(0), (((),), ((),), (), None, 0), at(0)), (), ()),))),
                         (True, (0, 1, 'next')))

    def test_names_of_arguments(self):
        self.assertIsNone(row_fault(image=IMAGE, paper=PAPER, thread=0, row=0))
        self.assertIsNone(paper_fault(image=IMAGE, paper=PAPER))
        self.assertIs(is_checked(image=IMAGE, value=PAPER), True)


class HandedTest(unittest.TestCase):
    """What each instruction hands on, word for word: just the told entry behind it is taken, and none with less."""

    def check(self, act, entry, behind, regions=(), row=1, image=None):
        code = [("rest",)] * 9
        code[row] = act
        code = [("push", 1, 0) if part == ("else",) else part for part in code] + [("end",)]
        image = image or one_thread(*code, widths=(4, 4), order=SIDES)
        entries = [None] * 10
        entries[row] = entry
        for region in regions:
            entries[region[0]] = entries[region[0]] or at(((),), ((), ()))
        entries[row + 1] = behind
        paper = of(entries, regions)
        self.assertTrue(is_paper(image, paper), paper)
        self.assertIsNone(row_fault(image, paper, 0, row), (act, behind))
        # No lot with a level less takes what is handed on.
        for part in (0, 1):
            for index, lot in enumerate(behind[part]):
                for level in lot:
                    less = replaced(behind, (part, index), tuple(low for low in lot if low != level))
                    self.assertEqual(row_fault(image, of(replaced(tuple(entries), (row + 1,), less), regions), 0, row), "next")
        for wrong in (None, (behind[0] + ((),), *behind[1:]), (behind[0][1:], *behind[1:])):
            if wrong != behind:
                self.assertEqual(row_fault(image, of(replaced(tuple(entries), (row + 1,), wrong), regions), 0, row), "next")

    def test_each_instruction(self):
        two = ((0,), (1,))
        for act, stack, behind, places in (
                (("push", 4, 3), ((0,),), ((0,), ()), two), (("local", 0), (), ((0,),), two), (("local", 1), ((0,),), ((0,), (1,)), two),
                (("box", 0), (), ((),), two), (("box", 3), (), ((0, 1),), two), (("cell", 1), ((1,),), ((0, 1),), two),
                (("cell", 0), ((), (1,)), ((), (1,)), two), (("op", "add", 4), ((0,), (1,)), ((0, 1),), two),
                (("op", "eq", 4), ((1,), (0,), ()), ((1,), (0,)), two), (("take", 2, 4), (), ((2,),), two), (("take", 0, 4), ((1,),), ((1,), (0,)), two),
                (("rest",), ((1,),), ((1,),), two), (("jump", 2), ((0, 1),), ((0, 1),), two), (("out", 2), ((0,), (1,)), ((0,),), two),
                (("fill", 3), ((1,), (0,)), ((1,),), two), (("cells", 3), ((1,), (0,), (1,)), ((1,),), two)):
            self.check(act, at(stack, places), at(behind, places))
        self.check(("keep", 0), at(((0,), (1,)), two), at(((0,),), ((1,), (1,))))
        self.check(("keep", 1), at(((0,),), two), at((), ((0,), (0,))))

    def test_veils(self):
        # In the region there is a veil over what comes on the stack, and into locals, and over nothing else.
        outer = (0, 9, (1,), 8, None, 0)
        for act, stack, behind in ((("push", 4, 3), (), ((1,),)), (("local", 0), (), ((0, 1),)), (("box", 1), (), ((0, 1),)),
                                   (("cell", 1), ((),), ((0, 1),)), (("op", "add", 4), ((0,), ()), ((0, 1),)), (("rest",), ((0,),), ((0,),))):
            code = [("else", 2), act] + [("rest",)] * 7 + [("end",)]
            image = one_thread(*code, widths=(4, 4), order=SIDES)
            self.check(act, at(stack, ((0,), ()), (), 0, 8), at(behind, ((0,), ()), (), 0, 7), [outer], image=image)
        code = [("else", 2), ("keep", 1)] + [("rest",)] * 7 + [("end",)]
        image = one_thread(*code, widths=(4, 4), order=SIDES)
        self.check(("keep", 1), at(((0,),), ((0,), ()), (), 0, 8), at((), ((0,), (0, 1)), (), 0, 7), [outer], image=image)

    def test_clocks(self):
        for clock, behind, right in (((), (), False), ((), (0,), True), ((0,), (0,), True), ((), (0, 1), True), ((1,), (0,), False),
                                     ((1,), (1,), False), ((1,), (0, 1), True), ((1,), (2,), True), ((2,), (0,), False), ((2,), (0, 1), True)):
            paper = of([None, at(((0,),), clock=clock), at(clock=behind), at(clock=(0, 1))], end=(0, 1))
            image = one_thread(("take", 0, 1), ("else", 2), ("rest",), ("end",), order=SIDES)
            self.assertEqual(row_fault(image, paper, 0, 1), None if right else "next", (clock, behind))
            # Both rows that come next take it.
            image = one_thread(("take", 0, 1), ("else", 3), ("rest",), ("end",), order=SIDES)
            self.assertEqual(row_fault(image, paper, 0, 1), None if right else "next", (clock, behind))
            paper = of([None, at(((0,),), clock=clock), at(clock=(0, 1)), at(clock=behind)], end=(0, 1))
            self.assertEqual(row_fault(image, paper, 0, 1), None if right else "next", (clock, behind))
            # What is handed on by anything else is the clock alone.
            image = one_thread(("take", 0, 1), ("keep", 0), ("rest",), ("end",), order=SIDES, widths=(4,))
            paper = of([None, at(((0,),), ((),), clock), at((), ((0,),), clock), None])
            self.assertIsNone(row_fault(image, paper, 0, 1))

    def test_regions(self):
        # From 8 slots on, one is taken by each row, and the last one lands.
        regions = [(1, 6, (1,), 2, None, 0)]
        for row, left in ((2, 2), (3, 1), (4, 2), (5, 1)):
            for other in (1, 2, 3, 4):
                paper = with_entry(row, one(other))
                if other != left:
                    self.assertNotEqual(row_fault(IMAGE, paper, 0, row), None, (row, other))
        self.assertIs(is_checked(IMAGE, of(ENTRIES, regions)), True)


class FaultTest(unittest.TestCase):
    def faults(self, image, paper):
        """All faults, held against the plain ones."""
        self.assertTrue(is_image(image) and is_paper(image, paper), paper)
        faults = plain_faults(image, paper)
        for thread, row, word in faults:
            self.assertEqual(row_fault(image, paper, thread, row), word)
        self.assertEqual(paper_fault(image, paper), faults[0] if faults else None)
        self.assertIs(is_checked(image, paper), not faults)
        return faults

    def test_entry(self):
        self.assertEqual(self.faults(IMAGE, with_entry(0, None)), [(0, 0, "entry")])
        self.assertEqual(self.faults(IMAGE, with_entry(0, at(((),), ((),)))), [(0, 0, "entry")])
        self.assertEqual(self.faults(IMAGE, with_entry(0, one(1))), [(0, 0, "entry")])
        # Also where only a region, or only words, are wrong, and `from` has no entry either.
        self.assertEqual(self.faults(IMAGE, with_entry(1, None)), [(0, 0, "next"), *[(0, row, "entry") for row in (2, 3, 4, 5)]])
        self.assertEqual(self.faults(IMAGE, replaced(with_entry(1, None), (0, 0, 0), one(1)))[0], (0, 0, "entry"))
        # A region to which nothing leads.
        away = one_thread(("jump", 4), ("else", 3), ("rest",), ("jump", 4), ("end",))
        regions = [(1, 4, (), 2, None, 0)]
        self.assertEqual(self.faults(away, of([at(), None, None, at(region=0, left=1), at()], regions)), [(0, 3, "entry")])
        self.assertEqual(self.faults(away, of([at(), at(((),)), at(region=0, left=2), at(region=0, left=1), at()], regions))[0], (0, 1, "next"))
        self.assertEqual(self.faults(away, of([at(), None, None, None, at()], regions)), [])

    def test_height(self):
        for act, needed in ((("push", 1, 1), 0), (("local", 0), 0), (("keep", 0), 1), (("box", 0), 0), (("fill", 0), 1), (("cell", 0), 1),
                            (("cells", 0), 2), (("op", "add", 4), 2), (("jump", 2), 0), (("else", 2), 1), (("out", 0), 1), (("take", 0, 1), 0),
                            (("rest",), 0), (("end",), 0)):
            image = one_thread(("rest",), act, ("end",), widths=(4,))
            for many in (0, 1, 2, 3):
                paper = of([at(places=((),)), at(((),) * many, ((),)), None])
                word = row_fault(image, paper, 0, 1)
                self.assertEqual(word == "height", many < needed, (act, many))
                self.assertIn(word, ("height", "next") if act[0] != "end" else (None,))

    def test_flow(self):
        for lot, number in (((), 0), ((0,), 1), ((1,), 2), ((0, 1), 3)):
            for told in ((), (0,), (1,), (0, 1), (2,), (1, 2)):
                # What box and row of this lot may hold: in this order a lot covers the lots with its levels, (2,) all.
                right = set(told) <= set(lot) or lot == (0, 1)
                for clock, stack in ((told, ((), ())), ((), (told, ())), ((), ((), told))):
                    paper = of([None, at(stack, (), clock), None])
                    for act, used in ((("cells", number), True), (("fill", number), stack[0] == ())):
                        image = one_thread(("rest",), act, ("end",), order=SIDES)
                        self.assertEqual(row_fault(image, paper, 0, 1), "next" if right or not used else "flow", (act, told, lot))

    def test_flow_to_levels(self):
        for level in range(3):
            for told in ((), (0,), (1,), (2,), (0, 1), (0, 2)):
                right = set(told) <= set(SIDES[level])
                for stack, clock in (((told,), ()), (((),), told), ((told, ()), ())):
                    image = one_thread(("rest",), ("out", level), ("end",), order=SIDES)
                    seen = stack[-1] == told or clock == told
                    self.assertEqual(row_fault(image, of([None, at(stack, (), clock), None]), 0, 1), "next" if right or not seen else "flow")
                    image = one_thread(("rest",), ("take", level, 1), ("end",), order=SIDES)
                    self.assertEqual(row_fault(image, of([None, at(stack, (), clock), None]), 0, 1), "next" if right or clock == () else "flow")

    def test_flow_in_regions(self):
        for lot, outs in (((), (0, 1, 2)), ((0,), (0, 2)), ((1,), (1, 2)), ((0, 1), (2,))):
            for level in range(3):
                for act in (("out", level), ("take", level, 1)):
                    image = one_thread(("else", 1), act, ("rest",), ("end",), order=SIDES)
                    paper = of([at(((),)), at(((),), (), (), 0, 2), None, None], [(0, 3, lot, 2, None, 0)])
                    self.assertEqual(row_fault(image, paper, 0, 1), "next" if level in outs else "flow", (lot, act))
                number = {(): 0, (0,): 1, (1,): 2, (0, 1): 3}[lot]
                for box, right in ((number, True), (0, lot == ()), (3, True)):
                    image = one_thread(("else", 1), ("fill", box), ("rest",), ("end",), order=SIDES)
                    self.assertEqual(row_fault(image, paper, 0, 1), "next" if right else "flow")

    def test_ends(self):
        image = one_thread(("else", 1), ("rest",), ("end",), order=SIDES)
        for clock in ((), (0,), (1,), (2,), (0, 1)):
            for end in ((), (0,), (1,), (2,), (0, 1)):
                right = set(clock) <= set(end) or end in ((2,), (0, 1))
                paper = of([None, None, at((), (), clock)], end=end)
                self.assertEqual(row_fault(image, paper, 0, 2), None if right else "flow", (clock, end))
        # No end lies within a region, also where nothing is left behind it.
        paper = of([at(((),)), None, at(region=0, left=1)], [(0, 2, (), 1, None, 0)])
        self.assertEqual(row_fault(image, paper, 0, 2), "flow")

    def test_region(self):
        def fault(word, region=REGION, clock=(), places=((),)):
            entry = at((word,), places, clock)
            paper = of([one(0), entry, *[at(places=places, clock=clock, region=0, left=left) for left in (2, 1, 2, 1)],
                        at(places=places, clock=clock), None, None], [region])
            self.assertTrue(is_paper(IMAGE, paper))
            return row_fault(IMAGE, paper, 0, 1)

        for word, lot, right in (((), (), True), ((), (1,), True), ((1,), (1,), True), ((1,), (), False), ((1,), (0,), False), ((0,), (1,), True),
                                 ((0, 1), (1,), True), ((0,), (), True)):
            self.assertEqual(fault(word, (1, 6, lot, 2, None, 0)), None if right else "region", (word, lot))
            # The clock does not cover the word in the place of the region's lot.
            self.assertEqual(fault(word, (1, 6, lot, 2, None, 0), clock=(0, 1)), None if right else "region", (word, lot))
        self.assertEqual(fault((1,), (1, 6, (1,), 3, None, 0)), "next")
        self.assertEqual(fault((1,), (1, 7, (1,), 2, None, 0)), None)

    def test_region_within(self):
        # The choice at row 3 stands in the region of row 1, which has 8 slots, and begins one.
        def fault(outer=(1,), inner=(3, 8, (1,), 2, 0, 2), left=5, word=(1,), clock=(), target=9):
            code = [("rest",), ("else", 2), ("rest",), ("else", 5), ("rest",), ("rest",), ("rest",), ("rest",), ("rest",), ("end",)]
            image = one_thread(*code)
            entries = [None, at((outer,)), None, at((word,), (), clock, 0, left), at(clock=clock, region=1, left=inner[3]),
                       at(clock=clock, region=1, left=inner[3]), None, None, None, None]
            paper = of(entries, [(1, target, outer, 7, None, 0), inner])
            self.assertTrue(is_paper(image, paper))
            return row_fault(image, paper, 0, 3)

        self.assertIsNone(fault())
        self.assertIsNone(fault(word=()))
        # Another region around, or none.
        self.assertEqual(fault(inner=(3, 8, (1,), 2, None, 0)), "region")
        # A lot that does not cover the word, or the veil.
        self.assertEqual(fault(outer=(), inner=(3, 8, (), 2, 0, 2)), "region")
        self.assertEqual(fault(inner=(3, 8, (), 2, 0, 2), word=()), "region")
        self.assertIsNone(fault(outer=(), inner=(3, 8, (), 2, 0, 2), word=()))
        # The slots are one for the choice, its time, and those behind.
        for left in (4, 6, 2, 3):
            self.assertEqual(fault(left=left), "region")
        self.assertEqual(fault(inner=(3, 8, (1,), 2, 0, 3)), "region")
        self.assertEqual(fault(inner=(3, 8, (1,), 1, 0, 2)), "region")
        self.assertIsNone(fault(inner=(3, 8, (1,), 2, 0, 3), left=6))
        # Nothing is behind: then it ends where the one around ends.
        self.assertEqual(fault(inner=(3, 8, (1,), 2, 0, 0), left=3), "region")
        self.assertIsNone(fault(inner=(3, 9, (1,), 2, 0, 0), left=3))
        self.assertIsNone(fault(inner=(3, 8, (1,), 2, 0, 0), left=3, target=8))
        # Something is behind: it may end anywhere.
        self.assertIsNone(fault(inner=(3, 0, (1,), 2, 0, 2)))

    def test_choices_in_a_region_without_one(self):
        # Around is a region with the lot (1,); a choice on a word that the clock or the region's lot covers needs none.
        code = [("else", 1), ("else", 2), ("rest",), ("end",)]
        image = one_thread(*code, order=SIDES)
        for word, clock, lot, right in (((), (), (), True), ((1,), (), (1,), True), ((0,), (), (1,), False), ((0,), (0,), (1,), True),
                                        ((0,), (1,), (1,), False), ((2,), (1,), (1,), False), ((0, 1), (0,), (1,), True), ((0,), (), (0, 1), True), ((2,), (), (0,), False),
                                        ((2,), (0,), (1,), True), ((0, 1), (2,), (), True), ((1,), (0,), (), False), ((2,), (0, 2), (), True)):
            entries = [at((lot,), (), clock), at((word,), (), clock, 0, 2), at((), (), clock, 0, 1), at((), (), clock)]
            paper = of(entries, [(0, 3, lot, 2, None, 0)], end=(0, 1, 2))
            self.assertTrue(is_paper(image, paper))
            self.assertEqual(row_fault(image, paper, 0, 1), None if right else "region", (word, clock, lot))
            # The clock of what comes next is not lifted in a region: it is the very one.
            if right and clock != (0, 1, 2):
                lifted = replaced(paper, (0, 0, 2, 2), (0, 1, 2))
                self.assertEqual(row_fault(image, lifted, 0, 1), "next")

    def test_choices_with_more_words_on_the_stack(self):
        # The word on top is taken, the others are kept.
        image = one_thread(("else", 1), ("else", 2), ("rest",), ("end",), order=SIDES)
        for stack, told in ((((0,), (1,)), None), (((1,), (0,)), "region"), (((0,), ()), None), (((), (0,)), "region")):
            # Around is a region with the lot (1,).
            entries = [at(((), (1,))), at(stack, region=0, left=2), at(stack[:1], region=0, left=1), None]
            paper = of(entries, [(0, 3, (1,), 2, None, 0)])
            self.assertEqual(row_fault(image, paper, 0, 1), told, stack)
            # It begins a region itself.
            entries = [None, at(stack), at(stack[:1], region=0, left=2), at(stack[:1], region=0, left=2)]
            for lot in ((1,), (0,)):
                paper = of(entries, [(1, 3, lot, 2, None, 0)])
                self.assertEqual(row_fault(image, paper, 0, 1), None if set(stack[1]) <= set(lot) else "region", (stack, lot))

    def test_next(self):
        self.assertEqual(self.faults(IMAGE, with_entry(7, None)), [(0, 6, "next")])
        self.assertEqual(self.faults(IMAGE, with_entry(1, at(((0,),), ((),)))), [(0, 0, "next")])
        self.assertEqual(self.faults(IMAGE, with_entry(1, at(((1,), ()), ((),))))[0], (0, 0, "next"))
        self.assertEqual(self.faults(IMAGE, with_entry(1, at((), ((),)))), [(0, 0, "next"), (0, 1, "height")])
        self.assertEqual(self.faults(IMAGE, replaced(PAPER, (0, 0, 1, 1), ((1,),)))[0], (0, 1, "next"))
        self.assertEqual(self.faults(IMAGE, replaced(PAPER, (0, 0, 0, 1), ((1,),))), [(0, 0, "next")])
        self.assertEqual(self.faults(IMAGE, replaced(PAPER, (0, 0, 0, 2), (1,))), [(0, 0, "next")])
        # Lots that cover are enough outside of regions, and for clocks not within them.
        self.assertEqual(self.faults(IMAGE, replaced(PAPER, (0, 0, 8, 2), (0, 1))), [(0, 8, "flow")])
        self.assertEqual(self.faults(IMAGE, replaced(replaced(PAPER, (0, 0, 8, 2), (0, 1)), (0, 2), (1,))), [])
        self.assertEqual(self.faults(IMAGE, replaced(PAPER, (0, 0, 3, 2), (1,))), [(0, 2, "next"), (0, 3, "next")])
        self.assertEqual(self.faults(IMAGE, replaced(PAPER, (0, 0, 5, 2), (0,))), [(0, 4, "next")])
        # Another region, or more or less left.
        self.assertEqual(self.faults(IMAGE, with_entry(2, one(0)))[0], (0, 1, "next"))
        self.assertEqual(self.faults(IMAGE, with_entry(2, one(3)))[:2], [(0, 1, "next"), (0, 2, "next")])
        self.assertEqual(self.faults(IMAGE, with_entry(6, one(1)))[:2], [(0, 3, "next"), (0, 5, "next")])

    def test_landings(self):
        # What lands at another row than that at which the region ends.
        wrong = replaced(PAPER, (0, 1, 0, 1), 7)
        self.assertEqual(self.faults(IMAGE, wrong), [(0, 3, "next"), (0, 5, "next")])
        away = (("take", 1, 1), ("else", 4), ("rest",), ("jump", 7), ("rest",), ("rest",), ("rest",), ("rest",), ("end",))
        image = (ORDER, (), (), (((1,), away),))
        entries = (*ENTRIES[:7], one(0), one(0))
        self.assertEqual(self.faults(image, of(entries, [REGION])), [(0, 3, "next")])
        self.assertEqual(self.faults(image, of(entries, [(1, 7, (1,), 2, None, 0)])), [(0, 5, "next")])
        # A choice that begins no region lands with both its rows.
        code = (("push", 1, 1), ("else", 3), ("else", 4), ("else", 4), ("end",))
        image = (ORDER, (), (), (((), code),))
        fit = of([at(), at(((), (), ())), None, None, None], [(1, 4, (), 1, None, 0)])
        self.assertEqual(row_fault(image, replaced(fit, (0, 0, 0), None), 0, 0), "entry")
        entries = [None, at(((), ())), at(((),), region=0, left=1), at(((),), region=0, left=1), at()]
        paper = of(entries, [(1, 4, (), 1, None, 0)])
        self.assertEqual(row_fault(image, paper, 0, 2), "next")
        self.assertIsNone(row_fault(image, paper, 0, 3))

    def test_landings_through_several_regions(self):
        # The inner choices end where the ones around them end, and the last one lands outside of all, or in the first.
        for behind, target, left in ((0, 12, 0), (2, 12, 2)):
            code = [("rest",), ("else", 2), ("else", 3), ("else", 4), ("rest",)] + [("rest",)] * 8 + [("end",)]
            image = one_thread(*code)
            outer = (1, 13 if behind else 12, (), 6 + behind, None, 0)
            regions = [outer, (2, 12, (), 4, 0, behind), (3, 12, (), 2, 1, 0)]
            entries = [None, at(((),)), at(((),), region=0, left=5 + behind), at(((),), region=1, left=3), at(region=2, left=2), *[None] * 9]
            entries[11] = at(region=2, left=1)
            entries[12] = at(region=0 if behind else None, left=left)
            paper = of(entries, regions)
            self.assertTrue(is_paper(image, paper))
            self.assertIsNone(row_fault(image, paper, 0, 3), row_fault(image, paper, 0, 3))
            self.assertIsNone(row_fault(image, paper, 0, 11))
            for wrong in (at(region=1, left=1), at(region=0, left=1), at(region=0, left=3), at(((),)), None):
                self.assertEqual(row_fault(image, replaced(paper, (0, 0, 12), wrong), 0, 11), "next")

    def test_twice(self):
        image = (ORDER, (), (), (((1,), TWICE),))
        paper = least_paper(image)
        self.assertEqual(paper[0][1], ((1, 12, (1,), 4, None, 0), (3, 12, (1,), 2, 0, 0)))
        self.assertEqual(paper[0][0][5], at((), ((),), (), 1, 1))
        self.assertEqual(self.faults(image, paper), [])
        self.assertEqual(self.faults(image, replaced(paper, (0, 1, 1, 1), 11)), [(0, 3, "region"), (0, 5, "next"), (0, 7, "next")])

    def test_first_word(self):
        # Several words fit: the first one is told. Row 0 has words on its stack, takes more, shows them, and has no next.
        image = one_thread(("op", "add", 4), ("out", 0), ("else", 0), ("end",))
        paper = of([at(((1,),)), None, None, None])
        self.assertEqual(row_fault(image, paper, 0, 0), "entry")
        paper = of([None, at(region=0, left=1), at(((1,),), region=0, left=2), at(region=0, left=1)], [(2, 3, (), 1, None, 0)])
        self.assertEqual([row_fault(image, paper, 0, row) for row in range(4)], ["entry", "height", "region", "flow"])
        paper = of([None, at(((1,),)), at(((1,),)), at((), (), (1,))], [(2, 3, (), 1, None, 0)])
        self.assertEqual([row_fault(image, paper, 0, row) for row in range(1, 4)], ["flow", "region", "flow"])
        self.assertEqual(row_fault(image, replaced(paper, (0, 1, 0, 2), (1,)), 0, 2), "next")
        # Heights of rows whose regions begin nowhere.
        paper = of([None, at(region=0, left=1), None, None], [(2, 3, (), 1, None, 0)])
        self.assertEqual(row_fault(image, paper, 0, 1), "entry")

    def test_first_fault(self):
        # Threads ahead of rows, and rows with no entry are left out, but for the first one.
        code = (("rest",), ("rest",), ("end",))
        image = (ORDER, (), (), (((), code), ((), code)))
        good = ((at(),) * 3, (), ())
        late = ((at(), at(), at(clock=(1,))), (), ())
        self.assertEqual(paper_fault(image, (good, good)), None)
        self.assertEqual(paper_fault(image, (good, late)), (1, 2, "flow"))
        self.assertEqual(paper_fault(image, (late, ((None,) * 3, (), ()))), (0, 2, "flow"))
        self.assertEqual(paper_fault(image, (good, ((None,) * 3, (), ()))), (1, 0, "entry"))
        self.assertEqual(paper_fault(image, (((at(), None, None), (), ()), good)), (0, 0, "next"))


class CheckedTest(unittest.TestCase):
    def test_wrong_values(self):
        for value in (*NO_TUPLES, *of_other_kinds(PAPER)):
            self.assertIs(is_checked(IMAGE, value), False, value)
            with self.assertRaises(InvalidPaper) as caught:
                paper_fault(IMAGE, value)
            self.assertEqual(caught.exception.at, 0)
        for value in otherwise(PAPER):
            if is_paper(IMAGE, value):
                faults = plain_faults(IMAGE, value)
                self.assertEqual(paper_fault(IMAGE, value), faults[0] if faults else None)
            else:
                with self.assertRaises(InvalidPaper):
                    paper_fault(IMAGE, value)
            self.assertIs(is_checked(IMAGE, value), is_paper(IMAGE, value) and not plain_faults(IMAGE, value))

    def test_changed_papers(self):
        found = {}
        for maker, image in even_images(60, depth=2):
            for told in (image, repaired_image(image)):
                for number, paper in enumerate(changed_papers(maker, told, least_paper(told), 9)):
                    other = changed_image(maker, told) if number % 2 else told
                    other = other if is_image(other) and is_paper(other, paper) else told
                    faults = plain_faults(other, paper)
                    for thread, row, word in faults:
                        self.assertEqual(row_fault(other, paper, thread, row), word)
                        found[word] = found.get(word, 0) + 1
                    self.assertEqual(paper_fault(other, paper), faults[0] if faults else None)
                    self.assertIs(is_checked(other, paper), not faults)
                    found[not faults] = found.get(not faults, 0) + 1
        self.assertGreater(min(found.values()), 30)
        self.assertEqual(len(found), 7)

    def test_papers_with_other_ends_stay_checked(self):
        for maker, image in even_images(60, depth=2):
            image = repaired_image(image)
            paper = least_paper(image)
            self.assertTrue(is_checked(image, paper))
            for thread, (_, _, end) in enumerate(paper):
                for _ in range(3):
                    lifted = tuple(sorted({*end, *other_lot(maker, end)}))
                    self.assertTrue(is_checked(image, replaced(paper, (thread, 2), lifted)))

    def test_papers_without_vain_entries_stay_checked(self):
        gone = 0
        for maker, image in even_images(60, depth=2):
            image = repaired_image(image)
            (entries, regions, end), *others = least_paper(image)
            widths, code = image[3][0]
            # A first row more, which jumps over some of the code: the paper of the rest tells of all rows.
            code = tuple((part[0], part[1] + 1) if part[0] in ("jump", "else") else part for part in code)
            begins = [row for row, entry in enumerate(entries) if entry is not None and entry[0] == () and entry[3] is None]
            row = maker.random.choice(begins)
            image = (*image[:3], ((widths, (("jump", row + 1), *code)), *image[3][1:]))
            regions = tuple((begin + 1, to + 1, *rest) for begin, to, *rest in regions)
            entries = (entries[row], *entries)
            self.assertTrue(is_checked(image, ((entries, regions, end), *others)))
            while True:
                code = image[3][0][1]
                led = {target for row, entry in enumerate(entries) if entry is not None for target in nexts(code, row)}
                vain = [row for row, entry in enumerate(entries) if entry is not None and row not in led and row != 0
                        and row not in [region[0] for region in regions]]
                if not vain:
                    break
                entries = replaced(entries, (maker.random.choice(vain),), None)
                gone += 1
                self.assertTrue(is_checked(image, ((entries, regions, end), *others)))
        self.assertGreater(gone, 100)


if __name__ == "__main__":
    unittest.main()
