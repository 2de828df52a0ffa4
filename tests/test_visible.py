"""Promises [65] and [66]."""
import unittest

from lookalike.bare import bare_start, bare_states, bare_step
from lookalike.machine import run_image
from lookalike.orders import order_of
from lookalike.records import seen
from lookalike.visible import is_visible_machine, machine_record, sight_of
from plainwatch import PlainPairs, input_by, plain_is_machine, plain_run, plain_sight, small_images
from test_checker import ORDER, one_thread
from wrongvalues import NO_TUPLES, of_other_kinds, otherwise, replaced

CHAIN = order_of(3, [(0, 1), (1, 2)])
END = ("end",)


class SightTest(unittest.TestCase):
    def test_levels(self):
        for act, levels in ((("take", 0, 4), (0, 1, 2)), (("take", 1, 4), (1, 2)), (("take", 2, 4), (2,)), (("out", 0), (0, 1, 2)), (("out", 1), (1, 2)),
                            (("out", 2), (2,)), (("rest",), ()), (("push", 4, 1), ())):
            image = one_thread(act, END, order=CHAIN)
            told = {"take": ("take", act[1] if len(act) > 1 else 0), "out": ("out", act[1] if len(act) > 1 else 0, 0)}.get(act[0])
            for level in range(3):
                self.assertEqual(sight_of(image=image, ends=((),), level=level, bare=bare_start(image)), told if level in levels else None)

    def test_ends(self):
        image = (CHAIN, (), (), (((), (END,)), ((), (END,))))
        for ends, level, told in ((((), ()), 0, True), (((1,), ()), 0, False), (((1,), ()), 1, True), (((0, 2), ()), 1, False), (((0, 2), ()), 2, True)):
            self.assertEqual(sight_of(image, ends, level, bare_start(image)), ("end", 0) if told else None)
        self.assertEqual(sight_of(image, ((2,), ()), 0, (1, (), (), (None, (0, (), ())))), ("end", 1))
        self.assertIsNone(sight_of(image, ((2,), ()), 0, (1, (), (), ((0, (), ()), None))))

    def test_made_ones(self):
        for _, image, ends, states in small_images(30, 60):
            for bare in states:
                for level in range(len(image[0])):
                    self.assertEqual(sight_of(image, ends, level, bare), plain_sight(image, ends, level, bare))

    def test_runs_that_do_not_part_are_seen_alike(self):
        # As long as sights are equal, the same words are taken of streams within the level.
        for maker, image, ends, _ in small_images(30, 60):
            for level in range(len(image[0])):
                one = [maker.random.randrange(4) for _ in range(60)]
                inputs = input_by(image, one)
                other = maker.few_words()
                other = tuple(inputs[low] if low in image[0][level] else other[low] for low in range(len(inputs)))
                runs = []
                for streams in (inputs, other):
                    left = [list(stream) for stream in streams]
                    bare, sights, words = bare_start(image), [], []
                    for _ in range(60):
                        sights.append(sight_of(image, ends, level, bare))
                        act = bare[3][bare[0]] and image[3][bare[0]][1][bare[3][bare[0]][0]]
                        word = 0
                        if act and act[0] == "take" and left[act[1]]:
                            word = left[act[1]].pop(0)
                        words.append(word if sights[-1] and sights[-1][0] == "take" else None)
                        bare = bare_step(image, bare, word)
                    runs.append((sights, words))
                same = next((tick for tick in range(60) if runs[0][0][tick] != runs[1][0][tick]), 60)
                self.assertEqual(runs[0][1][:same], runs[1][1][:same])
                record = [seen(image[0], level, ends, run_image(image, streams, same)) for streams in (inputs, other)]
                self.assertEqual(*record)


# A word that is seen is taken and shown, over and over; a secret is taken, and not shown.
ECHO = one_thread(("take", 1, 1), ("keep", 0), ("take", 0, 2), ("out", 0), ("jump", 0), widths=(1,))


def echo_machine():
    """Five blocks: the two ahead of the take, the take, and two behind it; the secret is told nowhere."""
    states = bare_states(ECHO, 100)
    names = {0: 0, 1: 1, 2: 2, 4: 7}
    blocks, rows = [], {}
    for state in states:
        row, stack, _ = state[3][0]
        blocks.append(names[row] if row in names else 3 + stack[-1])
    rows = ((None, (1,)), (None, (2,)), (("take", 0), (3, 4, 5, 6) * 4), *[(("out", 0, word), (7,)) for word in range(4)], (None, (0,)))
    return tuple(blocks), rows


class MachineTest(unittest.TestCase):
    def check(self, image, ends, level, value, told, states=None):
        self.assertIs(is_visible_machine(image=image, ends=ends, level=level, value=value), told, value)
        self.assertIs(plain_is_machine(image, ends, level, value, states or bare_states(image, 1000)), told, value)

    def test_small(self):
        # An end that is seen, and one that is not.
        image = one_thread(("rest",), END)
        seen_end = ((0, 1, 2), ((None, (1,)), (("end", 0), (2,)), (None, (2,))))
        self.check(image, ((),), 0, seen_end, True)
        self.check(image, ((1,),), 0, seen_end, False)
        self.check(image, ((1,),), 0, ((0, 0, 0), ((None, (0,)),)), True)
        self.check(image, ((1,),), 0, ((0, 1, 0), ((None, (1,)), (None, (0,)))), False)
        self.check(image, ((1,),), 0, ((0, 1, 1), ((None, (1,)), (None, (1,)))), True)
        self.check(image, ((1,),), 0, ((0, 1, 1), ((None, (0,)), (None, (1,)))), False)
        self.check(image, ((1,),), 0, ((0, 1, 2), ((None, (1,)), (None, (2,)), (None, (2,)))), True)

    def test_a_take_that_is_seen(self):
        value = echo_machine()
        self.check(ECHO, ((),), 0, value, True)
        self.check(ECHO, ((),), 1, value, False)
        # Each of the 16 words leads to the state that it comes to as a word of the take.
        blocks, rows = value
        for word in range(16):
            wrong = replaced(value, (1, 2, 1, word), 3 + (word + 1) % 4)
            self.check(ECHO, ((),), 0, wrong, False)
        # Fewer or more of them.
        self.check(ECHO, ((),), 0, replaced(value, (1, 2, 1), (3, 4, 5, 6)), False)
        self.check(ECHO, ((),), 0, replaced(value, (1, 2, 1), (3, 4, 5, 6) * 5), False)
        self.check(ECHO, ((),), 0, replaced(value, (1, 0, 1), (1,) * 16), False)
        self.check(ECHO, ((),), 0, replaced(value, (1, 0, 1), ()), False)

    def test_a_take_that_is_not_seen(self):
        # A secret leads to one block alone, whatever word it is.
        image = one_thread(("take", 1, 4), ("keep", 0), END, widths=(4,))
        rows = ((None, (1,)), (None, (2,)), (("end", 0), (3,)), (None, (3,)))
        states = bare_states(image, 99)
        blocks = tuple(3 if state[3][0] is None else state[3][0][0] for state in states)
        self.assertEqual(len(states), 1 + 16 + 16 + 1)
        self.check(image, ((),), 0, (blocks, rows), True)
        for word in range(16):
            at = states.index((0, *states[0][1:3], ((1, (word,), (0,)),)))
            wrong = (replaced(blocks, (at,), 4), (*rows, (None, (2,))))
            self.check(image, ((),), 0, wrong, False)

    def test_blocks(self):
        value = echo_machine()
        blocks, rows = value
        self.assertGreater(len(blocks), 10)
        # The first one's is 0, and each up to the greatest is there.
        self.check(ECHO, ((),), 0, (blocks[:-1], rows), False)
        self.check(ECHO, ((),), 0, ((*blocks, 0), rows), False)
        self.check(ECHO, ((),), 0, (blocks, rows[:-1]), False)
        self.check(ECHO, ((),), 0, (blocks, (*rows, (None, (0,)))), False)
        turned = {0: 1, 1: 0}
        turn = lambda block: turned.get(block, block)
        other = (tuple(map(turn, blocks)), tuple((rows[turn(block)][0], tuple(map(turn, rows[turn(block)][1]))) for block in range(8)))
        self.check(ECHO, ((),), 0, other, False)
        turned = {1: 2, 2: 1}
        other = (tuple(map(turn, blocks)), tuple((rows[turn(block)][0], tuple(map(turn, rows[turn(block)][1]))) for block in range(8)))
        self.check(ECHO, ((),), 0, other, True)
        # Sights of other states.
        for block in range(8):
            for sight in (None, ("take", 1), ("take", 0), ("out", 0, 9), ("out", 1, 0), ("end", 0)):
                if sight != rows[block][0]:
                    self.check(ECHO, ((),), 0, replaced(value, (1, block, 0), sight), False)

    def test_too_many_states(self):
        # A stack that grows for ever has no machine, whatever is told.
        image = one_thread(("push", 1, 0), ("jump", 0))
        for many in (1, 2, 10, 500):
            self.assertIs(is_visible_machine(image, ((),), 0, ((0,) * many, ((None, (0,)),))), False)
        image = one_thread(("push", 1, 0), END)
        for many in range(1, 6):
            self.assertIs(is_visible_machine(image, ((1,),), 0, ((0,) * many, ((None, (0,)),))), many == 3)

    def test_wrong_values(self):
        for image, value in ((ECHO, echo_machine()), (one_thread(("rest",), END), ((0, 1, 2), ((None, (1,)), (("end", 0), (2,)), (None, (2,))))),
                             (one_thread(("push", 1, 1), ("out", 0), END),
                              ((0, 1, 2, 3), ((None, (1,)), (("out", 0, 1), (2,)), (("end", 0), (3,)), (None, (3,)))))):
            states = bare_states(image, 100)
            self.check(image, ((),), 0, value, True, states)
            for wrong in (*NO_TUPLES, *of_other_kinds(value)):
                self.assertIs(is_visible_machine(image, ((),), 0, wrong), False, wrong)
            for other in otherwise(value):
                self.check(image, ((),), 0, other, plain_is_machine(image, ((),), 0, other, states), states)

    def test_made_ones(self):
        found = {True: 0, False: 0}
        for maker, image, ends, states in small_images(40, 50):
            for level in range(len(image[0])):
                pairs = PlainPairs(image, ends, level, states)
                values = []
                if pairs.parts() is None:
                    values.append(pairs.least())
                # One block for each state, or two of them put together, in the least one, too.
                fine = tuple(range(len(states)))
                for blocks in (fine, tuple(min(block, maker.random.choice(fine)) for block in fine), *[value[0] for value in values]):
                    names = sorted(set(blocks), key=blocks.index)
                    blocks = tuple(names.index(block) for block in blocks)
                    at = blocks.index(maker.random.choice(blocks))
                    rows = []
                    for block in range(len(names)):
                        first = blocks.index(block)
                        sight, behind = pairs.sights[first], pairs.behind[first]
                        many = 16 if sight is not None and sight[0] == "take" else 1
                        rows.append((sight, tuple(blocks[behind[word % len(behind)]] for word in range(many))))
                    values += [(blocks, tuple(rows)), (replaced(blocks, (at,), maker.random.randrange(len(rows))), tuple(rows))]
                for value in values:
                    right = plain_is_machine(image, ends, level, value, states)
                    self.assertIs(is_visible_machine(image, ends, level, value), right)
                    found[right] += 1
        self.assertGreater(min(found.values()), 60)


class RecordTest(unittest.TestCase):
    def test_echo(self):
        value = echo_machine()
        self.assertEqual(machine_record(value=value, inputs=((3, 6), (1,)), ticks=19),
                         ((2, ("take", 0)), (3, ("out", 0, 3)), (7, ("take", 0)), (8, ("out", 0, 2)), (12, ("take", 0)), (13, ("out", 0, 0)),
                          (17, ("take", 0)), (18, ("out", 0, 0))))
        for ticks, many in ((0, 0), (2, 0), (3, 1), (4, 2), (7, 2), (8, 3)):
            self.assertEqual(len(machine_record(value, ((3, 6), ()), ticks)), many)
        # What words leave when divided by 16.
        self.assertEqual([word for _, word in machine_record(value, ((18, 16, 10 ** 30 + 5), ()), 15)[1::2]],
                         [("out", 0, 2), ("out", 0, 0), ("out", 0, (10 ** 30 + 5) % 4)])
        self.assertEqual(len(machine_record(value, ((), ()), 100000)), 40000)

    def test_streams_of_several_levels(self):
        image = one_thread(("take", 1, 1), ("out", 1), ("take", 0, 1), ("out", 1), ("jump", 0))
        value = PlainPairs(image, ((),), 1, bare_states(image, 100)).least()
        outs = [deed[2] for _, deed in machine_record(value, ((1, 1, 0), (0, 1)), 24) if deed[0] == "out"]
        self.assertEqual(outs, [0, 1, 1, 1, 0, 0, 0, 0, 0, 0])

    def test_as_in_runs(self):
        # All runs with inputs alike for the level are told by the machine.
        told = 0
        for maker, image, ends, states in small_images(50, 60):
            for level in range(len(image[0])):
                pairs = PlainPairs(image, ends, level, states)
                if pairs.parts() is not None:
                    continue
                value = pairs.least()
                self.assertIs(is_visible_machine(image, ends, level, value), True)
                inputs = maker.few_words()
                for _ in range(4):
                    streams = [list(stream) for stream in maker.alike_input(inputs, level)]
                    bare, record = bare_start(image), []
                    for tick in range(80):
                        sight = sight_of(image, ends, level, bare)
                        if sight is not None:
                            record.append((tick, sight))
                        act = bare[3][bare[0]] and image[3][bare[0]][1][bare[3][bare[0]][0]]
                        word = streams[act[1]].pop(0) if act and act[0] == "take" and streams[act[1]] else 0
                        bare = bare_step(image, bare, word)
                    self.assertEqual(machine_record(value, inputs, 80), tuple(record))
                    told += 1
                # And so are runs of the machine of chapter 11, but for takes.
                record = tuple(pair for pair in machine_record(value, inputs, 80) if pair[1][0] != "take")
                self.assertEqual(record, seen(image[0], level, ends, run_image(image, maker.alike_input(inputs, level), 80)))
        self.assertGreater(told, 200)

    def test_words_handed_in_by_what_is_seen(self):
        for maker, image, ends, states in small_images(20, 40):
            for level in range(len(image[0])):
                pairs = PlainPairs(image, ends, level, states)
                if pairs.parts() is None:
                    inputs = maker.few_words()
                    left = [list(stream) for stream in inputs]

                    def words(told, is_seen):
                        if not is_seen:
                            return maker.random.randrange(16)
                        stream = left[told[-1][1][1]]
                        return stream.pop(0) if stream else 0

                    self.assertEqual(machine_record(pairs.least(), inputs, 60), plain_run(image, ends, level, words, 60))


if __name__ == "__main__":
    unittest.main()
