"""Promise [64]."""
import itertools
import unittest

from lookalike.bare import bare_deed, bare_start, bare_states, bare_step, words_in
from lookalike.errors import Refused
from lookalike.machine import advance, run_image
from lookalike.orders import order_of
from lookalike.states import start_state
from evenimages import EvenMaker
from plainwatch import input_by, plain_act, plain_start, plain_states, plain_step, plain_words, small_images
from test_checker import ORDER, one_thread

END = ("end",)


def threads_of(*codes, boxes=(), rows=(), widths=(4,)):
    return (ORDER, boxes, rows, tuple((widths, tuple(code)) for code in codes))


class ExampleTest(unittest.TestCase):
    def test_example(self):
        order = order_of(2, [(0, 1)])
        code = (("take", 1, 1), ("else", 3), ("rest",), ("push", 1, 1), ("out", 0), ("end",))
        image = (order, (), (), (((), code),))
        self.assertEqual(bare_deed(image, bare_start(image)), ("take", 1))


class StartTest(unittest.TestCase):
    def test_start(self):
        image = (ORDER, (((), 4, 3), ((), 8, 200)), (((), 4, 3),), (((4, 1), (END,)), ((), (END,))))
        self.assertEqual(bare_start(image=image), (0, (3, 200), ((0, 0, 0),), ((0, (), (0, 0)), (0, (), ()))))
        self.assertEqual(bare_start(one_thread(END)), (0, (0,) * 4, ((0, 0),) * 4, ((0, (), ()),)))


class StepTest(unittest.TestCase):
    def test_slots(self):
        image = threads_of((("rest",), END), (END,), (("rest",), ("rest",), END), widths=())
        bare, slots, ended = bare_start(image), [], []
        for _ in range(9):
            slots.append(bare[0])
            bare = bare_step(image=image, bare=bare, word=0)
            ended.append(tuple(part is None for part in bare[3]))
        self.assertEqual(slots, [0, 1, 2] * 3)
        self.assertEqual(ended[0::3], [(False,) * 3, (True, True, False), (True, True, False)])
        self.assertEqual(ended[8], (True,) * 3)
        # Threads that have ended do nothing, but the slot goes on.
        self.assertEqual(bare_step(image, (1, (), (), (None,) * 3), 7), (2, (), (), (None,) * 3))
        self.assertEqual(bare_step(image, (2, (), (), (None,) * 3), 7), (0, (), (), (None,) * 3))

    def test_takes(self):
        image = one_thread(("take", 1, 4), END)
        for word, told in ((0, 0), (7, 7), (15, 15), (16, 0), (17, 1), (10 ** 30 + 3, (10 ** 30 + 3) % 16)):
            self.assertEqual(bare_step(image, bare_start(image), word)[3], ((1, (told,), ()),))
        image = one_thread(("take", 0, 1), END)
        self.assertEqual(bare_step(image, bare_start(image), 5)[3], ((1, (1,), ()),))

    def test_other_words_are_not_used(self):
        image = one_thread(("push", 4, 3), ("fill", 1), ("box", 1), ("keep", 0), ("push", 4, 1), ("local", 0), ("cells", 2), ("push", 4, 3), ("cell", 2),
                           ("else", 0), ("push", 4, 9), ("out", 0), END, widths=(2,))
        bare = other = bare_start(image)
        for tick in range(16):
            self.assertEqual(bare, other)
            bare, other = bare_step(image, bare, 0), bare_step(image, other, 12345 + tick)
        self.assertEqual(bare, (0, (0, 3, 0, 0), ((0, 0), (0, 0), (0, 3), (0, 0)), (None,)))

    def test_empty_stacks(self):
        image = one_thread(("op", "sub", 4), ("keep", 0), ("else", 4), END, ("out", 1), ("cells", 0), ("fill", 1), END, widths=(4,))
        bare = bare_start(image)
        for _ in range(3):
            bare = bare_step(image, bare, 0)
        self.assertEqual(bare[3], ((4, (), (0,)),))
        self.assertEqual(bare_deed(image, bare), ("out", 1, 0))
        for _ in range(4):
            bare = bare_step(image, bare, 0)
        self.assertEqual(bare[1:], ((0,) * 4, ((0, 0),) * 4, (None,)))

    def test_runs(self):
        # A run goes through bare states by the words that it takes, and is known by them.
        for seed in range(60):
            maker = EvenMaker(seed, depth=2, whiles=0.3)
            image = maker.image()
            for _ in range(3):
                words, bare = [], bare_start(image)
                for _ in range(80):
                    self.assertEqual(bare, (len(words) % len(image[3]), *bare[1:]))
                    words.append(maker.random.choice([0, 1, 2, 3, 15, 16, 17, 300]))
                    self.assertEqual(bare_step(image, bare, words[-1]), plain_step(image, bare, words[-1]))
                    bare = bare_step(image, bare, words[-1])
                state = advance(image, start_state(image, input_by(image, words)), len(words))[0]
                self.assertEqual(bare, (state[0] % len(image[3]), state[1], state[2], state[4]))


class DeedTest(unittest.TestCase):
    def test_each_instruction(self):
        deeds = {("take", 1, 4): ("take", 1), ("take", 0, 2): ("take", 0), ("out", 1): ("out", 1, 7), ("out", 0): ("out", 0, 7), END: ("end", 0)}
        for act in (("push", 4, 3), ("local", 0), ("keep", 0), ("box", 0), ("fill", 0), ("cell", 0), ("cells", 0), ("op", "add", 4), ("jump", 0),
                    ("else", 1), ("rest",), *deeds):
            image = one_thread(act, END, widths=(4,))
            bare = (0, (0,) * 4, ((0, 0),) * 4, ((0, (5, 7), (0,)),))
            self.assertEqual(bare_deed(image=image, bare=bare), deeds.get(act))
            self.assertEqual(words_in(image=image, bare=bare), {("take", 1, 4): 16, ("take", 0, 2): 4}.get(act, 1))
        self.assertEqual([words_in(one_thread(("take", 0, width), END), bare_start(one_thread(END))) for width in (1, 2, 4)], [2, 4, 16])

    def test_whose_tick_it_is(self):
        image = threads_of((("take", 0, 1), END), (("out", 1), END), (END,), widths=())
        threads = bare_start(image)[3]
        self.assertEqual([bare_deed(image, (slot, (), (), threads)) for slot in range(3)], [("take", 0), ("out", 1, 0), ("end", 2)])
        self.assertEqual([words_in(image, (slot, (), (), threads)) for slot in range(3)], [2, 1, 1])
        self.assertEqual([bare_deed(image, (slot, (), (), (None,) * 3)) for slot in range(3)], [None] * 3)
        self.assertEqual([words_in(image, (slot, (), (), (None,) * 3)) for slot in range(3)], [1] * 3)

    def test_as_in_runs(self):
        for seed in range(60):
            maker = EvenMaker(seed, depth=2, whiles=0.3)
            image = maker.image()
            words = [maker.random.choice([0, 1, 2, 3, 16]) for _ in range(100)]
            bare, record = bare_start(image), []
            for tick, word in enumerate(words):
                deed = bare_deed(image, bare)
                act = plain_act(image, bare)
                self.assertEqual(deed is not None and deed[0] == "take", act is not None and act[0] == "take")
                self.assertEqual(words_in(image, bare), len(plain_words(image, bare)))
                if deed is not None and deed[0] != "take":
                    record.append((tick, deed))
                bare = bare_step(image, bare, word)
            self.assertEqual(tuple(record), run_image(image, input_by(image, words), 100))


class StatesTest(unittest.TestCase):
    def test_round_by_round(self):
        # A word of two bits, then one more: earlier states first, by lesser words first.
        image = one_thread(("take", 1, 2), ("keep", 0), ("take", 0, 1), ("keep", 0), ("jump", 4), widths=(2,))
        states = bare_states(image=image, most=100)
        self.assertEqual([state[3][0] for state in states],
                         [(0, (), (0,)), *[(1, (word,), (0,)) for word in range(4)], *[(2, (), (word,)) for word in range(4)],
                          *[(3, (bit,), (word,)) for word in range(4) for bit in range(2)], (4, (), (0,)), (4, (), (1,))])

    def test_sixteen_words(self):
        image = one_thread(("take", 1, 4), ("keep", 0), ("jump", 2), widths=(4,))
        self.assertEqual([state[3][0][:2] for state in bare_states(image, 40)], [(0, ()), *[(1, (word,)) for word in range(16)], *[(2, ())] * 16])

    def test_refused(self):
        image = one_thread(("take", 1, 2), END)
        self.assertEqual(len(bare_states(image, 6)), 6)
        for most in range(6):
            with self.assertRaises(Refused) as caught:
                bare_states(image, most)
            self.assertEqual(caught.exception.at, most)
        # A stack that grows for ever.
        with self.assertRaises(Refused) as caught:
            bare_states(one_thread(("push", 1, 0), ("jump", 0)), 1000)
        self.assertEqual(caught.exception.at, 1000)
        self.assertEqual(len(bare_states(one_thread(END), 2)), 2)

    def test_ended_threads_go_on(self):
        image = threads_of((END,), (END,), (END,), widths=())
        self.assertEqual(len(bare_states(image, 99)), 6)
        self.assertEqual([state[0] for state in bare_states(image, 99)], [0, 1, 2, 0, 1, 2])

    def test_made_ones(self):
        for maker, image, _, states in small_images(60, 120):
            told = bare_states(image, len(states))
            self.assertIs(told.__class__, tuple)
            self.assertEqual(told, tuple(states))
            self.assertEqual(len(set(told)), len(told))
            if len(states) > 1:
                with self.assertRaises(Refused) as caught:
                    bare_states(image, len(states) - 1)
                self.assertEqual(caught.exception.at, len(states) - 1)
            self.assertEqual(told[0], plain_start(image))
            # All that runs come to are among them.
            for _ in range(3):
                bare = told[0]
                for _ in range(50):
                    bare = bare_step(image, bare, maker.random.randrange(20))
                    self.assertIn(bare, told)

    def test_each_one_is_come_to(self):
        for maker, image, _, states in small_images(10, 25):
            ticks = 6
            come = set()
            for words in itertools.product(range(4), repeat=ticks):
                bare = bare_start(image)
                for word in words:
                    come.add(bare)
                    bare = bare_step(image, bare, word)
            self.assertLessEqual(come, set(bare_states(image, 25)))
            self.assertIsNone(plain_states(image, len(states) - 1) if len(states) > 1 else None)


if __name__ == "__main__":
    unittest.main()
