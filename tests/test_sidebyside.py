"""Promise [60]."""
import unittest

from lookalike.checker import is_checked
from lookalike.code import is_image
from lookalike.leastpapers import least_paper
from lookalike.machine import run_image, step_image
from lookalike.orders import order_of
from lookalike.papers import end_lots, is_paper
from lookalike.records import alike_inputs, cut_record, seen
from lookalike.sidebyside import alike_ticks
from lookalike.states import start_state
from changedpapers import changed_image, changed_papers
from evenimages import even_images, repaired_image
from plainpapers import plain_fits, plain_unlike
from test_checker import IMAGE, ORDER, PAPER, at, of, one_thread
from wrongvalues import replaced


def plain_ticks(image, paper, level, one, other, ticks):
    """The same tick by tick, each state looked at as a whole."""
    states = [start_state(image, inputs) for inputs in (one, other)]
    ends = end_lots(paper)
    for tick in range(-1, ticks):
        if tick >= 0:
            steps = [step_image(image, state) for state in states]
            shown = [seen(image[0], level, ends, tuple((0, deed) for deed in deeds)) for _, deeds in steps]
            if shown[0] != shown[1]:
                return tick
            states = [state for state, _ in steps]
        if not all(plain_fits(image, paper, state) for state in states) or plain_unlike(image, paper, level, *states):
            return tick
    return None


class ExampleTest(unittest.TestCase):
    def test_example(self):
        order = order_of(2, [(0, 1)])
        image = (order, (), (), (((1,), (("take", 1, 1), ("else", 4), ("rest",), ("jump", 6), ("rest",), ("rest",), ("push", 1, 1), ("out", 0), ("end",))),))
        at = lambda left: ((), ((),), (), None if left == 0 else 0, left)
        paper = (((at(0), (((1,),), ((),), (), None, 0), at(2), at(1), at(2), at(1), at(0), (((),), ((),), (), None, 0), at(0)), ((1, 6, (1,), 2, None, 0),), ()),)
        self.assertEqual((alike_ticks(image, paper, 0, ((), (0,)), ((), (1,)), 20), alike_ticks(image, paper, 1, ((), (0,)), ((), (1,)), 20)),
                         (None, -1))


class TickTest(unittest.TestCase):
    def check(self, image, paper, level, one, other, ticks, told):
        self.assertEqual(alike_ticks(image=image, paper=paper, level=level, one=one, other=other, ticks=ticks), told)
        self.assertEqual(plain_ticks(image, paper, level, one, other, ticks), told)

    def test_starts(self):
        # States at the start that are not alike, or do not fit, also for no ticks.
        for ticks in (0, 1, 9):
            self.check(IMAGE, PAPER, 0, ((), (0,)), ((), (1,)), ticks, None)
            self.check(IMAGE, PAPER, 0, ((4,), (0,)), ((), (0,)), ticks, -1)
            self.check(IMAGE, PAPER, 1, ((), (0,)), ((), (1,)), ticks, -1)
            self.check(IMAGE, replaced(PAPER, (0, 0, 0), None), 0, ((), ()), ((), ()), ticks, -1)
            self.check(IMAGE, replaced(PAPER, (0, 0, 0), at(((),), ((),))), 0, ((), ()), ((), ()), ticks, -1)

    def test_first_ticks(self):
        # A word that is shown at the tick 1 is taken at the tick 0, where the stack tells that it is seen.
        image = one_thread(("take", 1, 4), ("out", 0), ("end",))
        one, other = ((), (3,)), ((), (4,))
        hidden = of([at(), at(((1,),)), at()])
        told = of([at(), at(((),)), at()])
        for ticks, tick in ((0, None), (1, None), (2, 1), (9, 1)):
            self.check(image, hidden, 0, one, other, ticks, tick)
        for ticks, tick in ((0, None), (1, 0), (9, 0)):
            self.check(image, told, 0, one, other, ticks, tick)
        self.check(image, hidden, 0, one, ((), (3, 5)), 9, None)
        # Rows that do not fit are found behind the tick that comes to them.
        self.check(image, of([at(), at(((1,),)), None]), 0, one, one, 9, 1)
        self.check(image, of([at(), at(((1,),)), at(((),))]), 0, one, one, 9, 1)
        self.check(image, of([at(), at(), at()]), 0, one, one, 9, 0)

    def test_boxes_rows_and_streams(self):
        one, other = ((), (3,)), ((), (4,))
        for number, tick in ((0, 1), (1, 1), (2, None), (3, None)):
            image = one_thread(("take", 1, 4), ("fill", number), ("end",))
            self.check(image, of([at(), at(((1,),)), at()]), 0, one, other, 9, tick)
            image = one_thread(("push", 4, 1), ("take", 1, 4), ("cells", number), ("end",))
            self.check(image, of([at(), at(((),)), at(((), (1,))), at()]), 0, one, other, 9, None if tick is None else 2)
            # A word that stands at another index.
            image = one_thread(("take", 1, 4), ("push", 4, 1), ("cells", number), ("end",))
            self.check(image, of([at(), at(((1,),)), at(((1,), ())), at()]), 0, one, other, 9, None if tick is None else 2)
            self.check(image, of([at(), at(((1,),)), at(((1,), ())), at()]), 0, one, ((), (5,)), 9, None)

    def test_what_only_one_run_does(self):
        # The one run does it, the other one rests, and nobody sees which of them it is.
        for act, inputs, tick in ((("take", 0, 4), (9,), 2), (("take", 1, 4), (9,), None), (("take", 0, 4), (), None),
                                  (("fill", 0), (), 2), (("fill", 3), (), None), (("rest",), (), None)):
            image = one_thread(("take", 1, 1), ("else", 5), act, ("rest",), ("jump", 7), ("rest",), ("rest",), ("end",))
            image = replaced(image, (1, 0), ((), 4, 7))
            stack = ((),) if act[0] == "take" else ()
            late = at(stack, clock=(1,))
            paper = of([at(), at(((1,),)), at(clock=(1,)), late, late, at(clock=(1,)), at(clock=(1,)), at(clock=(1,))], end=(1,))
            self.check(image, paper, 0, (inputs, (1, 2)), (inputs, (0, 2)), 3, tick)

    def test_ends(self):
        image = one_thread(("take", 1, 1), ("else", 3), ("rest",), ("end",))
        for end, tick in (((1,), None), ((), 2)):
            paper = of([at(), at(((1,),)), at(clock=(1,)), at(clock=(1,))], end=end)
            self.check(image, paper, 0, ((), (0,)), ((), (1,)), 50, tick)
        # The runs are over.
        self.check(image, paper, 0, ((), (0,)), ((), (0,)), 10, None)
        self.assertIsNone(alike_ticks(image, paper, 0, ((), (0,)), ((), (0,)), 1000000))

    def test_long_runs(self):
        image = (ORDER, (), (), (((4,), (("take", 1, 4), ("keep", 0), ("take", 0, 4), ("out", 0), ("jump", 0))),))
        paper = least_paper(image)
        self.assertTrue(is_checked(image, paper))
        self.assertIsNone(alike_ticks(image, paper, 0, ((3, 4, 5), (1, 2)), ((3, 4, 5), (7,)), 100000))
        self.assertEqual(alike_ticks(image, paper, 0, ((3, 4, 5), (1, 2)), ((3, 4, 6), (7,)), 100000), -1)
        # A counter that is shown only when it is full, by what is hidden.
        code = (("take", 1, 4), ("keep", 1), ("local", 0), ("push", 16, 1), ("op", "add", 16), ("keep", 0), ("local", 0), ("push", 16, 5000),
                ("op", "eq", 16), ("else", 2), ("local", 1), ("out", 0), ("end",))
        image = (ORDER, (), (), (((16, 4), code),))
        paper = least_paper(image)
        self.assertFalse(is_checked(image, paper))
        record = run_image(image, ((), (3,)), 1000000)
        self.assertEqual(alike_ticks(image, paper, 0, ((), (3,)), ((), (4,)), 1000000), record[0][0])
        self.assertIsNone(alike_ticks(image, paper, 0, ((), (3,)), ((), (4,)), record[0][0]))

    def test_changed_papers(self):
        found = {}
        for maker, image in even_images(60, depth=2):
            for told in (image, repaired_image(image)):
                for number, paper in enumerate([least_paper(told), *changed_papers(maker, told, least_paper(told), 6)]):
                    other = changed_image(maker, told) if number % 2 else told
                    other = other if is_image(other) and is_paper(other, paper) else told
                    for level in range(len(image[0])):
                        inputs = maker.few_words(), maker.few_words()
                        inputs = (inputs[0], maker.alike_input(inputs[0], level)) if maker.flip(0.8) else inputs
                        tick = alike_ticks(other, paper, level, *inputs, 60)
                        self.assertEqual(tick, plain_ticks(other, paper, level, *inputs, 60))
                        kind = tick if tick in (None, -1) else "some"
                        found[kind] = found.get(kind, 0) + 1
        self.assertGreater(min(found.values()), 40)
        self.assertEqual(len(found), 3)

    def test_checked_papers(self):
        # Two runs of a checked image look alike, whoever wrote it.
        runs = changed = 0
        for maker, image in even_images(60, depth=2):
            told = repaired_image(image)
            for number, paper in enumerate([least_paper(told), *changed_papers(maker, told, least_paper(told), 12)]):
                other = changed_image(maker, told) if number % 2 else told
                if not is_image(other) or not is_checked(other, paper):
                    continue
                changed += number > 0
                for level in range(len(image[0])):
                    inputs = maker.few_words()
                    others = maker.alike_input(inputs, level)
                    self.assertTrue(alike_inputs(image[0], level, inputs, others))
                    self.assertIsNone(alike_ticks(other, paper, level, inputs, others, 150))
                    shown = [seen(image[0], level, end_lots(paper), run_image(other, part, 150)) for part in (inputs, others)]
                    self.assertEqual(*shown)
                    cut = maker.random.randint(0, 150)
                    self.assertEqual(cut_record(shown[0], cut), seen(image[0], level, end_lots(paper), run_image(other, others, cut)))
                    runs += 1
        self.assertGreater(changed, 100)
        self.assertGreater(runs, 300)


if __name__ == "__main__":
    unittest.main()
