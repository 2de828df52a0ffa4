"""Promises [40] and [41]."""
import re
import unittest

from lookalike.code import is_image
from lookalike.codetexts import image_text, read_image
from lookalike.errors import InvalidText
from lookalike.orders import is_order
from lookalike.words import OPS, WIDTHS
from randomimages import made_images
from test_code import EXAMPLE, FULL
from wrongvalues import same

FULL_TEXT = """levels 2
within 0
within 0 1
box 8 255 0 1
row 1 64
row 32 1 1
thread 4 1
push 32 9
local 1
keep 0
box 0
fill 0
cell 0
cells 1
add 8
jump 9
else 3
out 1
take 0 16
rest
end
thread
jump 0"""
NUMBER = re.compile(r"(0|[1-9][0-9]{0,19})")


def plain_error(text):
    """None, or the index with which a text is refused: line by line."""
    lines = text.split("\n")
    words = [line.split(" ") for line in lines]

    def numbers(index, word):
        if index >= len(words) or words[index][0] != word or not all(NUMBER.fullmatch(part) for part in words[index][1:]):
            return None
        return [int(part) for part in words[index][1:]]

    def is_lot(lot):
        return lot == sorted(set(lot)) and all(level < levels for level in lot)

    first = numbers(0, "levels")
    if first is None or len(first) != 1 or not 1 <= first[0] <= 12:
        return 0
    levels = first[0]
    order = []
    at = 1
    for level in range(levels):
        lot = numbers(at, "within")
        if lot is None or not is_lot(lot) or level not in lot:
            return at
        order.append(tuple(lot))
        at += 1
    if not is_order(tuple(order)):
        return at
    counts = {"out": levels, "take": levels}
    for word, greatest in (("box", lambda told: 2 ** told[0] - 1), ("row", lambda told: 64)):
        begin = at
        while at < len(words) and words[at][0] == word:
            told = numbers(at, word)
            if told is None or len(told) < 2 or told[0] not in WIDTHS or not is_lot(told[2:]):
                return at
            if not (word == "row") <= told[1] <= greatest(told):
                return at
            at += 1
        counts.update({"box": at - begin, "fill": at - begin} if word == "box" else {"cell": at - begin, "cells": at - begin})
    while True:
        widths = numbers(at, "thread")
        if widths is None or not all(width in WIDTHS for width in widths):
            return at
        counts["local"] = counts["keep"] = len(widths)
        at += 1
        code = []
        while at < len(words) and words[at][0] != "thread":
            word = words[at][0]
            told = numbers(at, word)
            need = {"push": 2, "take": 2, "rest": 0, "end": 0}.get(word, 1)
            if told is None or word not in [*counts, *OPS, "push", "jump", "else", "rest", "end"] or len(told) != need:
                return at
            if word in counts and told[0] >= counts[word] or word in OPS and told[0] not in WIDTHS:
                return at
            if word == "take" and told[1] not in WIDTHS:
                return at
            if word == "push" and (told[0] not in WIDTHS or told[1] >= 2 ** told[0]):
                return at
            code.append((word, told))
            at += 1
        if not code or code[-1][0] not in ("end", "jump"):
            return at
        if any(word in ("jump", "else") and told[0] >= len(code) for word, told in code):
            return at
        if at == len(words):
            return None


def error_of(text):
    try:
        read_image(text)
    except InvalidText as error:
        return error.at
    return None


def with_line(index, *lines):
    """The text of the full image with other lines in the place of one."""
    told = FULL_TEXT.split("\n")
    return "\n".join([*told[:index], *lines, *told[index + 1:]])


class WritingTest(unittest.TestCase):
    def test_example(self):
        self.assertEqual(image_text(image=EXAMPLE).split("\n"),
                         ["levels 2", "within 0", "within 0 1", "box 4 3 0", "thread 1", "box 0", "out 0", "end"])

    def test_full(self):
        self.assertEqual(image_text(FULL), FULL_TEXT)
        self.assertEqual(image_text((((0,),), (), (), (((), (("end",),)),))), "levels 1\nwithin 0\nthread\nend")

    def test_each_op(self):
        for op in OPS:
            image = (((0,),), (), (), (((), (("op", op, 16), ("end",))),))
            self.assertEqual(image_text(image), f"levels 1\nwithin 0\nthread\n{op} 16\nend")
            self.assertEqual(read_image(image_text(image)), image)


class ReadingTest(unittest.TestCase):
    def test_read_back(self):
        for image in (EXAMPLE, FULL, *[image for _, image in made_images(250)]):
            told = read_image(text=image_text(image))
            self.assertTrue(same(told, image))
            self.assertTrue(is_image(told))

    def test_no_text(self):
        for value in (None, 0, True, b"levels 1", ["levels 1"], ("levels 1",), 1.0, {}):
            with self.assertRaises(InvalidText) as caught:
                read_image(value)
            self.assertEqual(caught.exception.at, 0)

    def test_lines_that_are_wanted(self):
        lines = FULL_TEXT.split("\n")
        for many in range(1, len(lines)):
            told = None if lines[many - 1] == "end" else many
            self.assertEqual(error_of("\n".join(lines[:many])), told, many)
        self.assertEqual(error_of(""), 0)
        self.assertEqual(error_of("levels 1"), 1)
        self.assertEqual(error_of("levels 1\nwithin 0"), 2)
        self.assertEqual(error_of("levels 1\nwithin 0\nthread"), 3)
        self.assertEqual(error_of("levels 1\nwithin 0\nbox 4 3 0"), 3)

    def test_wrong_lines(self):
        for index, lines in (
                (0, ["levels", "levels 0", "levels 13", "levels 02", "levels 2 2", "level 2", "levels  2", " levels 2", "levels 2 ",
                     "Levels 2", "levels +2", "levels 2.0", "levels -2", "levels 99999999999999999999999", "levels two", "", "#"]),
                (1, ["within", "within 1", "within 0 2", "within 0 0", "within 1 0", "within 00", "within 0,1", "box 4 3 0"]),
                (2, ["within", "within 0", "within 1 0", "within 0 1 1", "within 0 1 2", "within 0 1 ", "thread"]),
                (3, ["box", "box 8", "box 3 1", "box 8 256", "box 8 255 2", "box 8 255 1 0", "box 8 255 0 0", "box 08 255", "box 8 0255",
                     "box 8 -1", "box 0 0", "boxes 8 255", "rest", "end", ""]),
                (4, ["row 1", "row", "row 1 0", "row 1 65", "row 3 64", "row 1 64 2", "row 1 64 1 0", "row 1 64 x", "rows 1 64"]),
                (6, ["thread 3", "thread 4 0", "thread 4  1", "thread 4 1 ", "thread 4 01", "threads 4 1", "within 0", "levels 2"]),
                (7, ["push", "push 32", "push 32 9 9", "push 3 1", "push 8 256", "push 8 00", "pusch 8 1", "push 8 x"]),
                (8, ["local", "local 2", "local 1 1", "local -1", "local 01", "local one"]), (9, ["keep 2", "keep", "keep 0 0"]),
                (10, ["box 1", "box", "box 0 0", "box 8 255 0 1"]), (11, ["fill 1"]), (12, ["cell 2", "row 1 64"]), (13, ["cells 2"]),
                (14, ["add", "add 3", "add 8 8", "op add 8", "op 8", "neg 8", "add 08"]),
                (15, ["jump", "jump 1 1", "jump 01", "jump -1", "jump x", "jump 100000000000000000000"]),
                (16, ["else", "else 3 3", "else 03", "else 111111111111111111111"]), (17, ["out", "out 2", "out 0 0"]),
                (18, ["take", "take 0", "take 2 16", "take 0 17", "take 0 16 1"]), (19, ["rest 0", "rest ", "rests", " rest", "mark 0", "thread"]),
                (21, ["thread 5", "end 1", "box 8 255"])):
            for line in lines:
                self.assertEqual(error_of(with_line(index, line)), index, line)
                self.assertEqual(error_of(with_line(index, line, "nonsense")), index, line)

    def test_no_order(self):
        self.assertEqual(error_of(with_line(1, "within 0 1")), 3)
        self.assertEqual(error_of("levels 3\nwithin 0\nwithin 0 1\nwithin 1 2\nthread\nend"), 4)
        self.assertEqual(error_of("levels 3\nwithin 0\nwithin 0 1\nwithin 1 2"), 4)
        self.assertIsNone(error_of("levels 3\nwithin 0\nwithin 0 1\nwithin 2\nthread\nend"))

    def test_no_codes(self):
        # The line behind the thread tells it, whatever it is.
        for line in ("jump 14", "else 14", "jump 99999999999999999999"):
            self.assertEqual(error_of(with_line(15, line)), 21, line)
        self.assertIsNone(error_of(with_line(15, "jump 13")))
        for line in ("rest", "else 0", "out 0"):
            self.assertEqual(error_of(with_line(20, line)), 21, line)
            self.assertEqual(error_of(with_line(22, line)), 23, line)
        self.assertEqual(error_of(with_line(22, "jump 1")), 23)
        self.assertEqual(error_of(with_line(22, "jump 1", "jump 0", "end")), None)
        self.assertEqual(error_of(with_line(21, "thread", "thread")), 22)
        # A wrong line comes first, from the top.
        self.assertEqual(error_of(with_line(15, "jump 14").replace("take 0 16", "take 0 15")), 18)
        self.assertEqual(error_of(with_line(15, "jump 14").replace("jump 0", "jump x")), 21)

    def test_more_lines(self):
        for more, at in (("\n", 23), ("\nthread", 24), ("\nthread\nend", None), ("\nend", None), ("\n\n", 23), (" ", 22), ("\nbox 8 0", 23)):
            self.assertEqual(error_of(FULL_TEXT + more), at, more)

    def test_other_signs(self):
        for one, other in (("levels 2", "levels \u0662"), ("\n", "\r\n"), ("\n", "\r"), (" ", "\t"), ("levels 2", "levels 2\u00a0"),
                           ("levels 2", "\ufefflevels 2")):
            self.assertEqual(error_of(FULL_TEXT.replace(one, other)), 0)
        self.assertEqual(error_of(FULL_TEXT.replace("out 1", "out \u0661")), 17)
        self.assertEqual(error_of(FULL_TEXT.replace("out 1", "out 1\x0b")), 17)
        self.assertEqual(error_of(FULL_TEXT.replace("rest", "rest\x0crest")), 19)

    def test_changed_texts(self):
        words = ["0", "1", "2", "3", "00", "4", "8", "64", "65", "x", "", "box", "row", "thread", "end", "jump", "else", "out", "99999", "op"]
        told = [0, 0]
        for maker, image in made_images(300):
            lines = [line.split(" ") for line in image_text(image).split("\n")]
            for _ in range(12):
                changed = [list(line) for line in lines]
                index = maker.random.randrange(len(lines))
                at = maker.random.randrange(len(lines[index]))
                deed = maker.random.choice(["word", "word", "word", "less", "more", "line", "twice", "cut"])
                if deed == "word":
                    changed[index][at] = maker.random.choice(words)
                elif deed == "less":
                    del changed[index][at]
                elif deed == "more":
                    changed[index].insert(at + 1, maker.random.choice(words))
                elif deed == "line":
                    del changed[index]
                elif deed == "twice":
                    changed.insert(index, lines[index])
                else:
                    changed = changed[:index]
                text = "\n".join(" ".join(line) for line in changed)
                error = plain_error(text)
                self.assertEqual(error_of(text), error, text)
                told[error is None] += 1
                if error is None:
                    self.assertEqual(image_text(read_image(text)), text)
        self.assertGreater(min(told), 300)


if __name__ == "__main__":
    unittest.main()
