"""Promises [42] to [46]."""
import copy
import unittest

from lookalike.machine import advance, run_image, step_image, thread_deeds, whole_run
from lookalike.orders import order_of
from lookalike.records import cut_record, is_record
from lookalike.states import is_over, start_state
from plainmachine import PlainMachine
from randomimages import made_images
from samples import ORDER
from test_code import FULL
from wrongvalues import same

EXAMPLE = (order_of(2, [(0, 1)]), (((0,), 4, 3),), (),
           (((), (("box", 0), ("out", 0), ("end",))), ((), (("take", 1, 2), ("fill", 0), ("end",)))))
END = ("end",)


def one_thread(*code, widths=(4, 1), boxes=(((), 8, 9),), rows=(((), 4, 3), ((), 16, 1))):
    return (ORDER, boxes, rows, ((widths, tuple(code)),))


def behind(*code, inputs=((), ()), ticks=None, **parts):
    """The state behind a code, ahead of its end."""
    image = one_thread(*code, END, **parts)
    return advance(image, start_state(image, inputs), len(code) if ticks is None else ticks)[0]


def stack(*code, **parts):
    return behind(*code, **parts)[4][0][1]


def push(word, width=32):
    return ("push", width, word)


class StateTest(unittest.TestCase):
    def test_start(self):
        self.assertEqual(start_state(image=EXAMPLE, inputs=((), (7,))), (0, (3,), (), ((), (7,)), ((0, (), ()), (0, (), ()))))
        self.assertEqual(start_state(FULL, ((5,), ())), (0, (255,), ((0,) * 64, (0,)), ((5,), ()), ((0, (), (0, 0)), (0, (), ()))))

    def test_is_over(self):
        for threads, over in (((None,), True), ((None, None), True), (((0, (), ()),), False), ((None, (0, (), ())), False)):
            self.assertIs(is_over(state=(3, (), (), ((),), threads)), over)


class StepTest(unittest.TestCase):
    def test_example(self):
        self.assertEqual((thread_deeds(run_image(EXAMPLE, ((), ()), 6), 1, 2), step_image(EXAMPLE, start_state(EXAMPLE, ((), ())))[0][4]),
                         (((2, ("end", 1)),), ((1, (3,), ()), (0, (), ()))))

    def test_each_instruction(self):
        self.assertEqual(stack(push(7), push(0, 1), push(15, 4)), (7, 0, 15))
        self.assertEqual(stack(("take", 1, 4), ("keep", 0), ("local", 0), ("local", 1), inputs=((), (12,))), (12, 0))
        self.assertEqual(stack(("box", 0), push(5), ("fill", 0), ("box", 0)), (9, 5))
        self.assertEqual(stack(push(1), push(6), ("cells", 0), push(1), ("cell", 0), push(2), ("cell", 0)), (6, 0))
        self.assertEqual(stack(push(9), push(5), ("op", "sub", 8)), (4,))
        self.assertEqual(stack(push(5), push(9), ("op", "lt", 8)), (1,))
        self.assertEqual(stack(("rest",), ("rest",)), ())
        self.assertEqual(behind(("jump", 0), ticks=3)[4], ((0, (), (0, 0)),))
        self.assertEqual(behind(push(1), ("else", 0), ("rest",), ticks=2)[4][0][:2], (2, ()))
        self.assertEqual(behind(push(0), ("else", 0), ("rest",), ticks=2)[4][0][:2], (0, ()))
        self.assertEqual(behind(push(0), ("else", 2), ("rest",), ticks=2)[4][0][:2], (2, ()))
        image = one_thread(push(77), ("out", 1), END)
        self.assertEqual(run_image(image, ((), ()), 9), ((1, ("out", 1, 77)), (2, ("end", 0))))

    def test_words_are_wrapped(self):
        self.assertEqual(behind(push(300), ("keep", 0), push(7), ("keep", 1))[4][0][2], (300 % 16, 1))
        self.assertEqual(behind(push(300), ("fill", 0))[1], (44,))
        self.assertEqual(behind(push(0), push(300), ("cells", 0))[2], ((12, 0, 0), (0,)))
        self.assertEqual(behind(push(1), push(300), ("cells", 1))[2], ((0, 0, 0), (300,)))
        self.assertEqual(stack(("take", 0, 4), ("take", 0, 1), ("take", 0, 32), inputs=((300, 6, 2 ** 40 + 3), ())), (12, 0, 3))
        # Operands are wrapped ahead of the op.
        self.assertEqual(stack(push(300), push(257), ("op", "div", 8)), (44,))
        self.assertEqual(stack(push(256), push(512), ("op", "eq", 8)), (1,))
        # What is put out, and by what is chosen, is not.
        image = one_thread(push(2 ** 32 - 1), ("out", 0), push(256), ("else", 0), END)
        self.assertEqual([deed for _, deed in run_image(image, ((), ()), 9)], [("out", 0, 2 ** 32 - 1), ("end", 0)])

    def test_indexes(self):
        code = [part for index in (3, 4, 200) for part in (push(index), push(index % 5 + 1), ("cells", 0))]
        self.assertEqual(behind(*code)[2][0], (4, 5, 1))
        self.assertEqual(stack(*code, push(303), ("cell", 0), push(5), ("cell", 1)), (4, 0))

    def test_empty_stack(self):
        self.assertEqual(stack(("op", "add", 4)), (0,))
        self.assertEqual(stack(push(3), ("op", "sub", 4)), (13,))
        self.assertEqual(stack(push(3), ("op", "div", 4)), (0,))
        self.assertEqual(stack(("cell", 0)), (0,))
        self.assertEqual(behind(("fill", 0), ("keep", 0), ("cells", 0))[1:3], ((0,), ((0, 0, 0), (0,))))
        self.assertEqual(behind(push(2), ("cells", 0))[2], ((2, 0, 0), (0,)))
        self.assertEqual(behind(("else", 0), ticks=1)[4][0][0], 0)
        self.assertEqual(run_image(one_thread(("out", 1), END), ((), ()), 2), ((0, ("out", 1, 0)), (1, ("end", 0))))

    def test_empty_stream(self):
        self.assertEqual(stack(("take", 0, 4), ("take", 0, 4), ("take", 1, 4), inputs=((3,), ())), (3, 0, 0))
        self.assertEqual(behind(("take", 0, 4), inputs=((3, 17), (5,)))[3], ((17,), (5,)))
        self.assertEqual(behind(("take", 1, 4), ("take", 1, 4), inputs=((3, 17), (5,)))[3], ((3, 17), ()))

    def test_ends(self):
        image = (ORDER, (), (), (((), (END,)), ((), (("rest",), END))))
        state, told = start_state(image, ((), (4,))), []
        for _ in range(6):
            state, deeds = step_image(image=image, state=state)
            told.append(deeds)
        self.assertEqual(told, [(("end", 0),), (), (), (("end", 1),), (), ()])
        self.assertEqual(state, (6, (), (), ((), (4,)), (None, None)))

    def test_as_told_another_way(self):
        kinds = set()
        for maker, image in made_images(300):
            inputs = maker.input()
            kept = copy.deepcopy((image, inputs))
            state = start_state(image, inputs)
            plain = PlainMachine(image, inputs)
            self.assertTrue(same(state, plain.state(0)))
            for tick in range(60):
                thread = tick % len(image[3])
                if state[4][thread] is not None:
                    kinds.add(image[3][thread][1][state[4][thread][0]][0])
                before = state
                state, deeds = step_image(image, state)
                deed = next(plain.ways[thread], None)
                self.assertEqual(deeds, () if deed is None else (deed,))
                self.assertTrue(same(state, plain.state(tick + 1)))
                # What others do changes nothing of a thread.
                self.assertEqual([parts for number, parts in enumerate(before[4]) if number != thread],
                                 [parts for number, parts in enumerate(state[4]) if number != thread])
            self.assertTrue(same((image, inputs), kept))
        self.assertEqual(len(kinds), 14)


class RunTest(unittest.TestCase):
    def test_example(self):
        self.assertEqual((run_image(EXAMPLE, ((), (7,)), 6), run_image(EXAMPLE, ((), (7,)), 4), whole_run(EXAMPLE, ((), ()), 9)),
                         (((2, ("out", 0, 3)), (4, ("end", 0)), (5, ("end", 1))), ((2, ("out", 0, 3)),),
                          (((2, ("out", 0, 3)), (4, ("end", 0)), (5, ("end", 1))), 6)))

    def test_runs(self):
        some = 0
        for maker, image in made_images(300):
            inputs = maker.input()
            ticks = maker.random.choice([0, 1, 20, 200])
            record = run_image(image=image, inputs=inputs, ticks=ticks)
            self.assertTrue(same(record, PlainMachine(image, inputs).record(ticks)))
            self.assertTrue(is_record(image[0], record))
            some += len(record)
        self.assertGreater(some, 500)

    def test_advancing_by_parts(self):
        for maker, image in made_images(150):
            start = start_state(image, maker.input())
            whole = advance(image=image, state=start, ticks=90)
            for cut in (0, 1, maker.random.randint(2, 89), 90):
                middle, one = advance(image, start, cut)
                end, other = advance(image, middle, 90 - cut)
                self.assertTrue(same((end, one + other), whole))
                self.assertEqual(middle[0], cut)
                self.assertEqual(one, cut_record(whole[1], cut))
                self.assertEqual(run_image(image, start[3], cut), cut_record(whole[1], cut))

    def test_no_ticks_and_many(self):
        start = start_state(EXAMPLE, ((), ()))
        self.assertEqual(advance(EXAMPLE, start, 0), (start, ()))
        state, record = advance(EXAMPLE, start, 1000000)
        self.assertEqual((state[0], state[4], len(record)), (1000000, (None, None), 3))
        again, record = advance(EXAMPLE, state, 1000000)
        self.assertEqual((again[0], again[1:], record), (2000000, state[1:], ()))
        image = one_thread(("jump", 0))
        self.assertEqual(advance(image, start_state(image, ((), ())), 300000)[0][0], 300000)

    def test_threads_that_read_nothing_do_the_same(self):
        code = (push(3), ("keep", 0), ("local", 0), ("out", 0), ("local", 0), push(1), ("op", "sub", 4), ("keep", 0), ("local", 0),
                ("else", 11), ("jump", 2), END)
        alone = (ORDER, (), (), (((4,), code),))
        for maker, image in made_images(60):
            several = (image[0], *image[1:3], (*image[3], ((4,), code)))
            many = len(several[3])
            record = run_image(several, maker.input(), 60 * many)
            told = [(slot, deed[:1] + deed[2:]) for slot, deed in thread_deeds(record, many - 1, many)]
            self.assertEqual(told, [(tick, deed[:1] + deed[2:]) for tick, deed in run_image(alone, ((), ()), 60)])


class WholeTest(unittest.TestCase):
    def test_most(self):
        told = (((2, ("out", 0, 3)), (4, ("end", 0)), (5, ("end", 1))), 6)
        self.assertEqual([whole_run(image=EXAMPLE, inputs=((), ()), most=most) for most in (0, 1, 5, 6, 7, 1000)],
                         [None, None, None, told, told, told])
        self.assertIsNone(whole_run(one_thread(("jump", 0)), ((), ()), 5000))

    def test_made_ones(self):
        over = 0
        for maker, image in made_images(200):
            inputs = maker.input()
            told = whole_run(image, inputs, 200)
            state, record = advance(image, start_state(image, inputs), 200)
            if told is None:
                self.assertFalse(is_over(state))
            else:
                over += 1
                self.assertEqual(told[0], record)
                self.assertTrue(is_over(advance(image, start_state(image, inputs), told[1])[0]))
                self.assertFalse(is_over(advance(image, start_state(image, inputs), told[1] - 1)[0]))
                self.assertIsNone(whole_run(image, inputs, told[1] - 1))
        self.assertGreater(over, 40)

    def test_thread_deeds(self):
        record = ((0, ("end", 0)), (4, ("out", 0, 1)), (5, ("out", 0, 2)), (7, ("out", 1, 3)), (8, ("end", 2)))
        self.assertEqual([thread_deeds(record=record, thread=thread, many=3) for thread in range(3)],
                         [((0, ("end", 0)),), ((1, ("out", 0, 1)), (2, ("out", 1, 3))), ((1, ("out", 0, 2)), (2, ("end", 2)))])
        self.assertEqual(thread_deeds(record, 0, 1), record)
        self.assertEqual(thread_deeds((), 0, 4), ())
        for maker, image in made_images(60):
            record = run_image(image, maker.input(), 60)
            many = len(image[3])
            back = [(slot * many + thread, deed) for thread in range(many) for slot, deed in thread_deeds(record, thread, many)]
            self.assertEqual(tuple(sorted(back)), record)


if __name__ == "__main__":
    unittest.main()
