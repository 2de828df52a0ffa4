"""Promise [71]."""
import unittest

from lookalike.orders import order_of
from lookalike.visible import machine_record
from lookalike.watched import watched
from lookalike.wishes import wished_machine_record, wished_record
from plainwatch import PlainPairs, plain_run, small_images
from test_checker import one_thread
from test_visible import ECHO, echo_machine

CHAIN = order_of(3, [(0, 1), (1, 2)])
END = ("end",)


def row_wish(row):
    """A wish that tells the words of a row, one after another, then 0."""
    def wish(told):
        takes = len([pair for pair in told if pair[1][0] == "take"]) - 1
        return row[takes] if takes < len(row) else 0

    return wish


class RecordTest(unittest.TestCase):
    def test_what_a_wish_is_told(self):
        asked = []

        def wish(told):
            asked.append(told)
            return len(asked)

        record = wished_record(image=ECHO, ends=((),), level=0, wish=wish, words=(1, 1), ticks=14)
        self.assertEqual(record, ((2, ("take", 0)), (3, ("out", 0, 1)), (7, ("take", 0)), (8, ("out", 0, 2)), (12, ("take", 0)), (13, ("out", 0, 3))))
        self.assertEqual(asked, [record[:1], record[:3], record[:5]])
        for told in asked:
            self.assertIs(told.__class__, tuple)
        # Who sees all takes hands in all words, and the other ones are not used.
        asked.clear()
        record = wished_record(ECHO, ((),), 1, wish, (1, 1), 14)
        self.assertEqual([pair[1] for pair in record[:4]], [("take", 1), ("take", 0), ("out", 0, 2), ("take", 1)])
        self.assertEqual(asked, [record[:1], record[:2], record[:4], record[:5], record[:7], record[:8]])

    def test_other_words(self):
        image = one_thread(("take", 1, 4), ("out", 0), ("jump", 0), order=CHAIN)
        for words, told in (((), (0, 0, 0)), ((5,), (5, 0, 0)), ((5, 0, 7), (5, 0, 7)), ((5, 18, 7, 9), (5, 2, 7)), ((10 ** 30,), (10 ** 30 % 16, 0, 0))):
            record = wished_record(image, ((),), 0, lambda seen: 1 // 0, words, 9)
            self.assertEqual([deed[2] for _, deed in record], list(told))
        # They are spent by all takes that are not seen, whatever their level.
        image = one_thread(("take", 1, 4), ("out", 0), ("take", 0, 4), ("out", 0), ("take", 2, 4), ("out", 0), ("jump", 0), order=CHAIN)
        record = wished_record(image, ((),), 0, lambda seen: 9, (1, 2, 3), 14)
        self.assertEqual([deed[2] for _, deed in record if deed[0] == "out"], [1, 9, 2, 3, 9, 0])

    def test_words_are_wrapped(self):
        image = one_thread(("take", 0, 2), ("out", 0), ("jump", 0))
        for word in (0, 3, 4, 7, 16, 10 ** 30 + 3):
            self.assertEqual(wished_record(image, ((),), 0, lambda seen: word, (), 2), ((0, ("take", 0)), (1, ("out", 0, word % 4))))

    def test_ticks(self):
        image = one_thread(("take", 0, 2), ("out", 0), END)
        for ticks in range(12):
            record = wished_record(image, ((),), 0, lambda seen: 3, (), ticks)
            self.assertEqual(record, ((0, ("take", 0)), (1, ("out", 0, 3)), (2, ("end", 0)))[:ticks])
        self.assertEqual(wished_record(image, ((1,),), 0, lambda seen: 3, (), 9), ((0, ("take", 0)), (1, ("out", 0, 3))))
        self.assertEqual(len(wished_record(ECHO, ((),), 0, lambda seen: 3, (), 100000)), 40000)

    def test_made_ones(self):
        for maker, image, ends, _ in small_images(60, 60):
            for level in range(len(image[0])):
                row = [maker.random.randrange(20) for _ in range(99)]
                other = tuple(maker.random.randrange(20) for _ in range(maker.random.randint(0, 9)))
                # By all that was seen so far.
                wish = lambda told: row[sum(tick + sum(part for part in sight if part.__class__ is int) for tick, sight in told) % 99]
                left = list(other)
                plain = plain_run(image, ends, level, lambda told, is_seen: wish(told) if is_seen else left.pop(0) if left else 0, 60)
                self.assertEqual(wished_record(image, ends, level, wish, other, 60), plain)


class MachineTest(unittest.TestCase):
    def test_echo(self):
        asked = []

        def wish(told):
            asked.append(told)
            return 16 + len(asked)

        record = wished_machine_record(value=echo_machine(), wish=wish, ticks=14)
        self.assertEqual(record, ((2, ("take", 0)), (3, ("out", 0, 1)), (7, ("take", 0)), (8, ("out", 0, 2)), (12, ("take", 0)), (13, ("out", 0, 3))))
        self.assertEqual(asked, [record[:1], record[:3], record[:5]])
        for told in asked:
            self.assertIs(told.__class__, tuple)
        self.assertEqual(wished_machine_record(echo_machine(), wish, 0), ())

    def test_as_in_runs(self):
        # If no two runs part, what is seen is what the machine tells, whatever the other words are.
        told = 0
        for maker, image, ends, _ in small_images(60, 60):
            for level in range(len(image[0])):
                word, value = watched(image, ends, level, 1000)
                row = [maker.random.randrange(20) for _ in range(99)]
                wish = lambda told: row[sum(tick + sight[-1] for tick, sight in told) % 99]
                if word == "sees":
                    record = wished_machine_record(value, wish, 60)
                    for _ in range(3):
                        other = tuple(maker.random.randrange(4) for _ in range(9))
                        self.assertEqual(wished_record(image, ends, level, wish, other, 60), record)
                    told += 1
                    # Who may wish sees no more than who hands in a told row.
                    inputs = maker.few_words()

                    def stream_wish(seen):
                        level_taken = seen[-1][1][1]
                        spent = len([pair for pair in seen if pair[1] == ("take", level_taken)]) - 1
                        return inputs[level_taken][spent] if spent < len(inputs[level_taken]) else 0

                    self.assertEqual(wished_machine_record(value, stream_wish, 60), machine_record(value, inputs, 60))
        self.assertGreater(told, 60)

    def test_a_row_parts_what_parts(self):
        # If two runs part, a wish that tells a row of words parts them.
        parted = 0
        for maker, image, ends, states in small_images(120, 60, most_width=1, depth=2):
            for level in range(len(image[0])):
                word, value = watched(image, ends, level, 1000)
                if word == "sees":
                    continue
                pairs = PlainPairs(image, ends, level, states)
                self.assertIsNotNone(pairs.parts())
                # Which words are seen, and which are not, tick by tick.
                rows, others, at = [], [[], []], 0
                index = [0, 0]
                for one, other in zip(*value):
                    sight = pairs.sights[index[0]]
                    if sight is not None and sight[0] == "take":
                        self.assertEqual(one, other)
                        rows.append(one)
                    else:
                        for side, word in enumerate((one, other)):
                            if len(pairs.behind[index[side]]) > 1:
                                others[side].append(word)
                    index = [pairs.behind[number][word % len(pairs.behind[number])] for number, word in zip(index, (one, other))]
                    at += 1
                records = [wished_record(image, ends, level, row_wish(rows), tuple(words), at + 1) for words in others]
                self.assertNotEqual(*records)
                self.assertEqual(*[wished_record(image, ends, level, row_wish(rows), tuple(words), at) for words in others])
                parted += 1
        self.assertGreater(parted, 25)


if __name__ == "__main__":
    unittest.main()
