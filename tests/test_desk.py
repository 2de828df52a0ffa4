"""Promise [79]."""
import unittest

from lookalike.desk import Desk
from lookalike.errors import InvalidCommand, InvalidQuestion, InvalidText, Refused
from lookalike.houses import House
from lookalike.programtexts import program_text
from letbyprograms import let_by_programs
from samples import SMALL_TOKENS, with_block
from test_houses import ECHO, all_of

LEAKS = program_text(with_block(("take", "a", 1), ("out", 0, ("name", "a"))))
COMMANDS = ("give 0 1", "tick 1", "see 0", "ticks", "rows", "undo")


def loaded(text):
    desk = Desk()
    desk.load(text)
    return desk


class LoadTest(unittest.TestCase):
    def test_no_house_at_first(self):
        desk = Desk()
        self.assertIsNone(desk.house)
        for command in COMMANDS:
            self.assertRaises(InvalidCommand, desk.say, command)
        self.assertIsNone(desk.house)

    def test_load(self):
        desk = Desk()
        self.assertEqual(desk.load(text=SMALL_TOKENS), "ok")
        self.assertIsInstance(desk.house, House)
        self.assertEqual(all_of(desk.house), (((), ()), 0, ()))
        desk.say("tick 5")
        self.assertEqual(desk.load(SMALL_TOKENS), "ok")
        self.assertEqual(desk.say("ticks"), "0")
        self.assertEqual(desk.say("undo"), "nothing")

    def test_texts_that_can_not_be_loaded(self):
        # While a house is loaded nothing changes.
        for desk in (Desk(), loaded(ECHO)):
            house = desk.house
            if house is not None:
                desk.say("tick 9")
            for text, error, at in (("levels 1", InvalidText, 2), (None, InvalidText, 0), (7, InvalidText, 0), (LEAKS, Refused, 1)):
                with self.assertRaises(error) as caught:
                    desk.load(text)
                self.assertEqual(caught.exception.at, at)
                self.assertIs(desk.house, house)
            if house is not None:
                self.assertEqual((desk.say("ticks"), len(house)), ("9", 1))


class SayTest(unittest.TestCase):
    def test_commands(self):
        desk = loaded(SMALL_TOKENS)
        for command, told in (("ticks", "0"), ("rows", "17"), ("see 0", "nothing"), ("see 1", "nothing"), ("undo", "nothing"), ("give 1 3", "ok"),
                              ("tick 10", "ok"), ("see 1", "nothing"), ("tick 1", "ok"), ("see 1", "10:1=4"), ("see 0", "nothing"), ("tick 40", "ok"),
                              ("ticks", "51"), ("see 1", "10:1=4; 11:end 0"), ("see 0", "11:end 0"), ("undo", "ok"), ("ticks", "11"),
                              ("see 1", "10:1=4"), ("undo", "ok"), ("undo", "ok"), ("undo", "ok"), ("undo", "nothing"), ("ticks", "0"), ("rows", "17")):
            self.assertEqual(desk.say(command=command), told, command)
        self.assertEqual(all_of(desk.house), (((), ()), 0, ()))

    def test_several_threads(self):
        program = with_block(("out", 0, ("word", 16, 50000)), ("out", 1, ("word", 4, 9)))
        text = program_text((*program[:4], (*program[4], ("u", (), ()))))
        desk = loaded(text)
        desk.say("tick 100")
        self.assertEqual(desk.say("see 0"), "1:end 1; 2:0=50000; 8:end 0")
        self.assertEqual(desk.say("see 1"), "1:end 1; 2:0=50000; 6:1=9; 8:end 0")
        self.assertEqual(desk.say("rows"), "6")

    def test_numbers(self):
        desk = loaded(ECHO)
        self.assertEqual(desk.say("give 0 99999"), "ok")
        self.assertEqual(desk.say("give 1 0"), "ok")
        self.assertEqual(desk.say("tick 10000"), "ok")
        self.assertEqual(desk.say("tick 0"), "ok")
        self.assertEqual(desk.house.inputs(), ((99999,), (0,)))
        self.assertEqual(len(desk.house), 4)
        self.assertEqual(desk.say("ticks"), "10000")

    def test_errors_of_the_house(self):
        desk = loaded(ECHO)
        desk.say("give 0 3")
        told = all_of(desk.house)
        for command in ("give 2 3", "give 99999 3", "tick 10001", "tick 99999", "see 2", "see 12"):
            with self.assertRaises(InvalidQuestion) as caught:
                desk.say(command)
            self.assertEqual(caught.exception.at, 0)
        self.assertEqual((all_of(desk.house), len(desk.house)), (told, 1))

    def test_wrong_commands(self):
        desk = loaded(ECHO)
        desk.say("give 0 3")
        desk.say("tick 2")
        told = all_of(desk.house)
        wrong = [None, True, 5, b"ticks", ["ticks"], ("ticks",), "", " ", "\n", "load", "Ticks", "TICK 1", "tick1", "sees 0", "look", "giv 0 1", "gives 0 1",
                 "undo 1", "ticks 1", "rows 0", "tick", "tick 1 2", "see", "see 0 1", "give", "give 0", "give 0 1 2", "tick one", "tick -1", "tick +1",
                 "tick 1.0", "tick 0x1", "tick 1_0", "see a", "give 0 a", "give a 0", "tick 00", "tick 01", "tick 007", "see 00", "give 00 1", "give 0 01",
                 "tick 100000", "give 0 100000", "give 0 000001", "see 123456", "tick \u0661", "tick \u00b2", "0", "1 tick", "tick tick"]
        for command in COMMANDS:
            wrong += [command + " ", " " + command, command + "\n", "\n" + command, command.replace(" ", "  "), command.replace(" ", "\n"),
                      command.replace(" ", "\t"), command + "\t", command + " 0 0 0", command + "\r", command.upper(), command + ";"]
        for command in wrong:
            if command in COMMANDS:
                continue
            with self.assertRaises(InvalidCommand, msg=command):
                desk.say(command)
        self.assertEqual((all_of(desk.house), len(desk.house)), (told, 2))

    def test_made_ones(self):
        shown = 0
        for maker, program in let_by_programs(30):
            desk = loaded(program_text(program))
            self.assertEqual(desk.say("rows"), str(sum(len(code) for _, code in desk.house.image[3])))
            for _ in range(20):
                level = maker.random.randrange(len(program[0]))
                desk.say(f"give {level} {maker.random.randrange(1000)}")
                desk.say(f"tick {maker.random.randrange(30)}")
                told = desk.say(f"see {level}")
                pairs = []
                for part in [] if told == "nothing" else told.split("; "):
                    tick, deed = part.split(":")
                    if deed.startswith("end "):
                        pairs.append((int(tick), ("end", int(deed[4:]))))
                    else:
                        pairs.append((int(tick), ("out", *map(int, deed.split("=")))))
                self.assertEqual(tuple(pairs), desk.house.see(level))
                shown += len(pairs)
        self.assertGreater(shown, 200)


if __name__ == "__main__":
    unittest.main()
