"""Promises [38] and [39]."""
import unittest

from lookalike.code import is_image, is_instruction, successors
from lookalike.codetexts import image_text, read_image
from lookalike.orders import is_lot, is_order, order_of
from lookalike.words import OPS, WIDTHS
from randomimages import made_images
from samples import ORDER
from wrongvalues import NO_NUMBERS, NO_TUPLES, of_other_kinds, otherwise, parts_of, replaced

EXAMPLE = (order_of(2, [(0, 1)]), (((0,), 4, 3),), (), (((1,), (("box", 0), ("out", 0), ("end",))),))
EACH = (("push", 32, 9), ("local", 1), ("keep", 0), ("box", 0), ("fill", 0), ("cell", 0), ("cells", 1), ("op", "add", 8),
        ("jump", 9), ("else", 3), ("out", 1), ("take", 0, 16), ("rest",), ("end",))
FULL = (ORDER, (((0, 1), 8, 255),), (((), 1, 64), ((1,), 32, 1)), (((4, 1), EACH), ((), (("jump", 0),))))


def number(value, most=None):
    return value.__class__ is int and value >= 0 and (most is None or value < most)


def plain_is_instruction(value):
    if value.__class__ is not tuple or not value or value[0].__class__ is not str:
        return False
    parts = value[1:]
    width = lambda part: part.__class__ is int and part in WIDTHS
    forms = {"push": lambda w, n: width(w) and number(n, 2 ** w), "op": lambda op, w: op.__class__ is str and op in OPS and width(w),
             "take": lambda level, w: number(level) and width(w), "rest": lambda: True, "end": lambda: True}
    form = forms.get(value[0])
    if form is None:
        return value[0] in "local keep box fill cell cells jump else out".split() and len(parts) == 1 and number(parts[0])
    return len(parts) == form.__code__.co_argcount and form(*parts)


def plain_is_image(value):
    def tuples(part, many=None):
        return part.__class__ is tuple and many in (None, len(part))

    def width(part):
        return part.__class__ is int and part in WIDTHS

    def thread(part):
        if not tuples(part, 2) or not tuples(part[0]) or not all(map(width, part[0])) or not tuples(part[1]):
            return False
        counts = {"local": len(part[0]), "keep": len(part[0]), "box": len(boxes), "fill": len(boxes), "cell": len(rows),
                  "cells": len(rows), "out": len(order), "take": len(order), "jump": len(part[1]), "else": len(part[1])}
        for instruction in part[1]:
            if not plain_is_instruction(instruction) or instruction[0] in counts and instruction[1] >= counts[instruction[0]]:
                return False
        return part[1] != () and part[1][-1][0] in ("end", "jump")

    if not tuples(value, 4):
        return False
    order, boxes, rows, threads = value
    return (is_order(order) and tuples(boxes) and tuples(rows) and tuples(threads) and threads != ()
            and all(tuples(box, 3) and is_lot(order, box[0]) and width(box[1]) and number(box[2], 2 ** box[1]) for box in boxes)
            and all(tuples(row, 3) and is_lot(order, row[0]) and width(row[1]) and number(row[2], 65) and row[2] for row in rows)
            and all(map(thread, threads)))


class InstructionTest(unittest.TestCase):
    def test_each(self):
        for instruction in EACH:
            self.assertIs(is_instruction(value=instruction), True)
        for op in OPS:
            for width in WIDTHS:
                self.assertIs(is_instruction(("op", op, width)), True)
        for word in "local keep box fill cell cells jump else out".split():
            self.assertIs(is_instruction((word, 10 ** 30)), True)
            for value in NO_NUMBERS:
                self.assertIs(is_instruction((word, value)), False)

    def test_edges(self):
        for width in WIDTHS:
            self.assertIs(is_instruction(("push", width, 2 ** width - 1)), True)
            self.assertIs(is_instruction(("push", width, 2 ** width)), False)
            self.assertIs(is_instruction(("take", 11, width)), True)
        for value in (("push", 3, 1), ("push", True, 1), ("push", 1, True), ("take", 0, 64), ("take", True, 1), ("op", "add", 5),
                      ("op", "neg", 8), ("op", ["add"], 8), ("op", 1, 8), ("add", 8), ("rest", 0), ("end", 1), ("out",), ("jump", -1),
                      ("local", 0, 0), ("word", 4, 3), (["rest"],), ("rests",), (None,), ("mark", 0)):
            self.assertIs(is_instruction(value), False, value)

    def test_wrong_values(self):
        for value in NO_TUPLES:
            self.assertIs(is_instruction(value), False)
        for instruction in EACH:
            for value in of_other_kinds(instruction):
                self.assertIs(is_instruction(value), False, value)
            for value in otherwise(instruction):
                self.assertIs(is_instruction(value), plain_is_instruction(value), value)


class ImageTest(unittest.TestCase):
    def test_example(self):
        self.assertEqual((is_image(EXAMPLE), image_text(EXAMPLE).split("\n")),
                         (True, ["levels 2", "within 0", "within 0 1", "box 4 3 0", "thread 1", "box 0", "out 0", "end"]))
        self.assertEqual((successors((("push", 1, 0), ("else", 0), ("end",)), 1), read_image(image_text(EXAMPLE)) == EXAMPLE),
                         ((0, 2), True))

    def test_right_ones(self):
        self.assertIs(is_image(value=FULL), True)
        self.assertIs(is_image((((0,),), (), (), (((), (("end",),)),))), True)
        for _, image in made_images(200):
            self.assertIs(is_image(image), True)

    def test_codes(self):
        def with_code(*code):
            return replaced(FULL, (3, 0, 1), tuple(code))
        for code, right in (((("end",),), True), ((("jump", 0),), True), ((("rest",),), False), ((), False), ((("else", 0),), False),
                            ((("end",), ("rest",)), False), ((("jump", 1), ("end",)), True), ((("jump", 2), ("end",)), False),
                            ((("else", 2), ("end",)), False), ((("else", 1), ("end",)), True), ((("local", 1), ("end",)), True),
                            ((("local", 2), ("end",)), False), ((("keep", 2), ("end",)), False), ((("box", 1), ("end",)), False),
                            ((("fill", 1), ("end",)), False), ((("cell", 1), ("end",)), True), ((("cell", 2), ("end",)), False),
                            ((("cells", 2), ("end",)), False), ((("out", 1), ("end",)), True), ((("out", 2), ("end",)), False),
                            ((("take", 1, 4), ("end",)), True), ((("take", 2, 4), ("end",)), False), ((("push", 4, 16), ("end",)), False),
                            ((["end"],), False), ((("jump", False),), False), ((("rest",),) * 5000 + (("end",),), True)):
            self.assertIs(is_image(with_code(*code)), right, code)

    def test_parts(self):
        for path, part, right in (((3,), (), False), ((1,), (), False), ((1, 0), ((0,), 4, 15), True), ((1, 0), ((0,), 4, 16), False),
                                  ((1, 0, 0), (2,), False), ((1, 0, 0), None, False), ((1, 0, 1), 5, False), ((2, 0, 2), 0, False),
                                  ((2, 0, 2), 64, True), ((2, 0, 2), 65, False), ((2, 1, 2), True, False), ((2, 0, 0), (1, 0), False),
                                  ((3, 0, 0), (4, 3), False), ((3, 0, 0), (), False), ((3, 0, 0), (1, 1, 1), True),
                                  ((0,), ((0,), (1,)), True), ((0,), ((0,),), False), ((0,), ((0, 1), (0, 1)), False)):
            self.assertIs(is_image(replaced(FULL, path, part)), right, (path, part))

    def test_wrong_values(self):
        for value in (*NO_TUPLES, FULL[:3], (*FULL, ()), list(FULL)):
            self.assertIs(is_image(value), False)
        for value in of_other_kinds(FULL):
            self.assertIs(is_image(value), False, value)
        right = 0
        for value in otherwise(FULL):
            self.assertIs(is_image(value), plain_is_image(value), value)
            right += is_image(value)
        self.assertGreater(right, 50)

    def test_made_ones_that_are_changed(self):
        for maker, image in made_images(60):
            paths = [path for path, _ in parts_of(image)]
            for _ in range(30):
                part = maker.random.choice([(), 0, 1, 2, True, (0,), (("end",),), ("jump", 1), ("out", 3), ("take", 1, 4), 64, [0]])
                value = replaced(image, maker.random.choice(paths), part)
                self.assertIs(is_image(value), plain_is_image(value), value)


class SuccessorsTest(unittest.TestCase):
    def test_each(self):
        code = (("rest",), ("jump", 5), ("else", 0), ("else", 4), ("else", 6), ("end",), ("jump", 6))
        self.assertEqual([successors(code=code, row=row) for row in range(7)], [(1,), (5,), (0, 3), (4,), (5, 6), (), (6,)])
        for row in range(len(EACH)):
            told = {8: (9,), 9: (3, 10), 13: ()}.get(row, (row + 1,))
            self.assertEqual(successors(EACH, row), told)

    def test_made_ones(self):
        for _, image in made_images(100):
            for _, code in image[3]:
                for row, instruction in enumerate(code):
                    nexts = set() if instruction[0] in ("end", "jump") else {row + 1}
                    nexts |= {instruction[1]} if instruction[0] in ("jump", "else") else set()
                    self.assertEqual(successors(code, row), tuple(sorted(nexts)))
                    self.assertTrue(all(next_row < len(code) for next_row in nexts))


if __name__ == "__main__":
    unittest.main()
