"""Promise [78]."""
import unittest

from lookalike.bare import bare_states
from lookalike.checker import is_checked
from lookalike.compiling import compiled
from lookalike.errors import InvalidQuestion, Refused
from lookalike.labels import labelled
from lookalike.leastpapers import is_harmless, least_paper
from lookalike.refusing import is_refusing_row, refusing_row
from lookalike.sheets import sheet, sheet_holds, wrong_sheets
from lookalike.visible import is_visible_machine
from lookalike.watched import is_parting, watched
from evenimages import even_images
from plainwatch import small_images
from randomprograms import made_programs
from samples import SMALL, with_block
from test_checker import IMAGE, PAPER, one_thread
from test_visible import ECHO, echo_machine
from test_watched import WAIT
from wrongvalues import NO_TUPLES, of_other_kinds, otherwise, replaced

A, END = ("name", "a"), ("end",)
LEAKS = with_block(("take", "a", 1), ("out", 0, A))
SHOWS = one_thread(("take", 1, 1), ("out", 0), END)
SHEETS = (("paper", (IMAGE,), PAPER), ("row", (LEAKS,), refusing_row(LEAKS)), ("sees", (ECHO, ((),), 0, 1000), echo_machine()),
          ("parts", (WAIT, ((0,),), 0, 1000), ((0, 0, 0), (1, 0, 0))))
NO_NAMES = (None, True, 0, "", "papers", "Paper", "seen", b"paper", ("paper",), ["paper"], {}, frozenset())


class HoldTest(unittest.TestCase):
    def test_each_kind(self):
        for told in SHEETS:
            self.assertIs(sheet_holds(value=told), True, told[0])

    def test_values_that_are_wrong(self):
        for value in (replaced(PAPER, (0, 0, 8), None), replaced(PAPER, (0, 1, 0, 2), ()), None, ()):
            self.assertIs(sheet_holds(("paper", (IMAGE,), value)), False)
        for value in ((), SHEETS[1][2][:-1], SHEETS[1][2] + SHEETS[1][2][-1:], None):
            self.assertIs(sheet_holds(("row", (LEAKS,), value)), False)
        for value in (((0,), ((None, (0,)),)), replaced(echo_machine(), (1, 0, 0), ("take", 0)), None):
            self.assertIs(sheet_holds(("sees", (ECHO, ((),), 0, 1000), value)), False)
        for value in (((0, 0), (1, 0)), ((0, 0, 0), (2, 0, 0)), ((), ()), None):
            self.assertIs(sheet_holds(("parts", (WAIT, ((0,),), 0, 1000), value)), False)

    def test_values_of_other_sheets(self):
        for name, question, _ in SHEETS:
            for other, _, value in SHEETS:
                self.assertIs(sheet_holds((name, question, value)), name == other)
        # Of "sees" and "parts" the other one.
        for image, ends, level in ((ECHO, ((),), 0), (WAIT, ((0,),), 0)):
            word, value = watched(image, ends, level, 1000)
            other = {"sees": "parts", "parts": "sees"}[word]
            self.assertIs(sheet_holds((word, (image, ends, level, 1000), value)), True)
            self.assertIs(sheet_holds((other, (image, ends, level, 1000), value)), False)

    def test_wrong_values(self):
        for told in SHEETS:
            for value in NO_TUPLES:
                self.assertIs(sheet_holds(value), False)
            for value in of_other_kinds(told):
                self.assertIs(sheet_holds(value), False, value)
            for value in (told[:2], (*told, None), (told,), list(told), told[::-1]):
                self.assertIs(sheet_holds(value), False)
            for name in NO_NAMES:
                self.assertIs(sheet_holds((name, *told[1:])), False)

    def test_made_otherwise(self):
        # Questions of other images and programs, right or wrong ones: as the functions tell.
        found = {True: 0, False: 0}
        for name, question, value in SHEETS[:1] + SHEETS[3:]:
            for other in otherwise((name, question, value)):
                if isinstance(other, tuple) and len(other) == 3 and other[0] == name and other[1] == question:
                    if name == "paper":
                        right = is_checked(*question, other[2])
                    else:
                        right = is_parting(*question[:3], other[2])
                    self.assertIs(sheet_holds(other), right)
                    found[right] += 1
                else:
                    self.assertIs(sheet_holds(other) in (True, False), True)
        self.assertGreater(min(found.values()), 3)

    def test_how_many_states_does_not_matter(self):
        # A sheet that is told holds, whatever bound stands in its question.
        many = len(bare_states(ECHO, 1000))
        for most in (0, 1, many, 10 ** 30):
            self.assertIs(sheet_holds(("sees", (ECHO, ((),), 0, most), echo_machine())), True)
            self.assertIs(sheet_holds(("parts", (WAIT, ((0,),), 0, most), SHEETS[3][2])), True)


class SheetTest(unittest.TestCase):
    def refused(self, name, question, at):
        with self.assertRaises(Refused) as caught:
            sheet(name=name, question=question)
        self.assertEqual(caught.exception.at, at, (name, question))

    def test_each_kind(self):
        for name, question, value in SHEETS:
            told = sheet(name, question)
            self.assertEqual(told[:2], (name, question))
            self.assertIs(sheet_holds(told), True)
            self.assertIs(told.__class__, tuple)
        self.assertEqual(sheet("paper", (IMAGE,))[2], least_paper(IMAGE))
        self.assertEqual(sheet("sees", SHEETS[2][1])[2], echo_machine())
        self.assertEqual(len(sheet("row", (LEAKS,))[2]), len(SHEETS[1][2]))

    def test_no_names(self):
        for name in NO_NAMES:
            self.refused(name, (IMAGE,), 0)
            self.refused(name, None, 0)

    def test_no_questions(self):
        for name, question, _ in SHEETS:
            for value in (*NO_TUPLES, *of_other_kinds(question), (), question[:-1], (*question, 0), list(question), question[0]):
                self.refused(name, value, 1)
                self.assertIs(sheet_holds((name, value, _)), False)
        # What one is asked is no question for another one.
        self.refused("paper", (LEAKS,), 1)
        self.refused("row", (IMAGE,), 1)
        self.refused("paper", SHEETS[2][1], 1)
        self.refused("sees", (IMAGE,), 1)

    def test_no_questions_of_watchers(self):
        for ends, level, most in ((((),), 2, 9), (((),), -1, 9), (((),), True, 9), (((),), None, 9), (((),), 0, -1), (((),), 0, True), (((),), 0, None),
                                  (((),), 0, 1.0), ((), 0, 9), (((), ()), 0, 9), (((2,),), 0, 9), (((1, 0),), 0, 9), ((None,), 0, 9), ([()], 0, 9),
                                  (((True,),), 0, 9)):
            for name in ("sees", "parts"):
                self.refused(name, (ECHO, ends, level, most), 1)
        # A take of more than four bits.
        for width, at in ((4, None), (8, 1), (16, 1), (32, 1)):
            image = one_thread(("take", 0, width), END)
            if at is None:
                self.assertIs(sheet_holds(sheet("sees", (image, ((),), 0, 100))), True)
            else:
                self.refused("sees", (image, ((),), 0, 100), at)
                self.refused("parts", (image, ((),), 0, 100), at)
            self.assertIs(sheet_holds(sheet("paper", (image,))), True)

    def test_nothing_that_holds(self):
        self.refused("paper", (SHOWS,), 2)
        self.refused("paper", (one_thread(("out", 0), END),), 2)
        self.refused("row", (SMALL,), 2)
        self.refused("sees", (WAIT, ((0,),), 0, 100), 2)
        self.refused("parts", (ECHO, ((),), 0, 1000), 2)

    def test_errors_of_functions(self):
        for name in ("sees", "parts"):
            for image, ends in ((WAIT, ((0,),)), (ECHO, ((),))):
                many = len(bare_states(image, 1000))
                for most in (3, 4, many - 1):
                    self.refused(name, (image, ends, 0, most), most)
            self.refused(name, (one_thread(("push", 1, 1), ("jump", 0)), ((),), 0, 50), 50)

    def test_made_ones(self):
        found = {}
        for _, image in even_images(40, depth=1):
            found["paper", is_harmless(image)] = 1
            if is_harmless(image):
                self.assertEqual(sheet("paper", (image,)), ("paper", (image,), least_paper(image)))
            else:
                self.refused("paper", (image,), 2)
        for _, program in made_programs(40):
            row = refusing_row(program)
            found["row", row is None] = 1
            if row is None:
                self.refused("row", (program,), 2)
            else:
                self.assertIs(is_refusing_row(program, sheet("row", (program,))[2]), True)
            image = compiled(labelled(program))
            self.assertIs(sheet_holds(("paper", (image,), least_paper(image))), is_harmless(image))
        for _, image, ends, states in small_images(40, 60, most_width=1, depth=2):
            for level in range(len(image[0])):
                question = (image, ends, level, len(states))
                word, value = watched(*question)
                found[word] = 1
                told = sheet(word, question)
                self.assertIs(sheet_holds(told), True)
                check = {"sees": is_visible_machine, "parts": is_parting}[word]
                self.assertIs(check(image, ends, level, told[2]), True)
                self.refused({"sees": "parts", "parts": "sees"}[word], question, 2)
        self.assertEqual(len(found), 6)


class WrongTest(unittest.TestCase):
    def test_indexes(self):
        wrong = (None, 7, ("paper", (IMAGE,), None), ("row", (SMALL,), ()), list(SHEETS[0]))
        self.assertEqual(wrong_sheets(values=SHEETS), ())
        self.assertEqual(wrong_sheets(list(SHEETS)), ())
        self.assertEqual(wrong_sheets(()), ())
        self.assertEqual(wrong_sheets([]), ())
        self.assertEqual(wrong_sheets(wrong), (0, 1, 2, 3, 4))
        self.assertEqual(wrong_sheets([SHEETS[0], wrong[0], SHEETS[1], wrong[2], SHEETS[2], SHEETS[3], wrong[4]]), (1, 3, 6))

    def test_no_sequences(self):
        for value in (None, True, 3, "paper", b"", {}, {1: 2}, set(), frozenset(), 1.0, iter(()), range(2)):
            with self.assertRaises(InvalidQuestion) as caught:
                wrong_sheets(value)
            self.assertEqual(caught.exception.at, 0)


if __name__ == "__main__":
    unittest.main()
