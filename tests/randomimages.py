"""Images made at random, always the same ones for one number, for tests."""
import random

from lookalike.orders import order_of
from lookalike.words import OPS, WIDTHS


class ImageMaker:
    """Makes images, small enough to be run."""

    def __init__(self, seed, levels=4, most_rows=14):
        self.random = random.Random(seed)
        self.most_levels = levels
        self.most_rows = most_rows

    def lot(self):
        return tuple(level for level in range(len(self.levels)) if self.random.random() < 0.3)

    def image(self):
        many = self.random.randint(1, self.most_levels)
        self.levels = order_of(many, [(low, high) for low in range(many) for high in range(low + 1, many)
                                      if self.random.random() < 0.4])
        self.boxes, self.rows = [], []
        for _ in range(self.random.randint(0, 2)):
            width = self.random.choice(WIDTHS)
            self.boxes.append((self.lot(), width, self.random.randrange(1 << width)))
        for _ in range(self.random.randint(0, 2)):
            self.rows.append((self.lot(), self.random.choice(WIDTHS), self.random.choice([1, 2, 3, 64])))
        threads = tuple(self.thread() for _ in range(self.random.randint(1, 3)))
        return (self.levels, tuple(self.boxes), tuple(self.rows), threads)

    def thread(self):
        self.places = [self.random.choice(WIDTHS) for _ in range(self.random.randint(0, 3))]
        self.many = self.random.randint(1, self.most_rows)
        code = [self.instruction() for _ in range(self.many - 1)]
        code.append(self.random.choice([("end",), ("jump", self.random.randrange(self.many))]))
        return (tuple(self.places), tuple(code))

    def instruction(self):
        kinds = ["push", "push", "op", "out", "out", "take", "take", "rest", "else", "else", "jump", "end"]
        kinds += ["local", "keep"] if self.places else []
        kinds += ["box", "fill"] if self.boxes else []
        kinds += ["cell", "cells"] if self.rows else []
        kind = self.random.choice(kinds)
        width = self.random.choice(WIDTHS)
        if kind == "push":
            return (kind, width, self.random.choice([0, 1, (1 << width) - 1, self.random.randrange(1 << width)]))
        if kind == "op":
            return (kind, self.random.choice(OPS), width)
        if kind == "take":
            return (kind, self.random.randrange(len(self.levels)), width)
        if kind in ("rest", "end"):
            return (kind,)
        counts = {"local": self.places, "keep": self.places, "box": self.boxes, "fill": self.boxes, "cell": self.rows,
                  "cells": self.rows, "out": self.levels}
        return (kind, self.random.randrange(len(counts[kind]) if kind in counts else self.many))

    def input(self):
        return tuple(tuple(self.random.choice([0, 1, 2, 5, 300, 1 << 33]) for _ in range(self.random.randint(0, 6)))
                     for _ in self.levels)


def made_images(many, **settings):
    """So many images, each with its maker."""
    for seed in range(many):
        maker = ImageMaker(seed, **settings)
        yield maker, maker.image()
