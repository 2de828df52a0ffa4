"""Images made at random with choices whose sides are mostly even, so that many have papers with regions.

A part of code is a tree: ("leaf", instructions), ("if", condition, side, side) or
("while", condition, side), a side being a list of trees. All code goes on to a
mark by a `jump`; so an inner choice may end just where the one around it ends.
"""
from lookalike.leastpapers import least_paper
from lookalike.checker import paper_fault
from lookalike.orders import order_of
from lookalike.words import OPS
from randomimages import ImageMaker
from wrongvalues import replaced

WIDTHS = (1, 2, 4)


class EvenMaker(ImageMaker):
    def __init__(self, seed, threads=2, depth=3, most_width=4, whiles=0.1, even=0.9, levels=3):
        super().__init__(seed, levels)
        self.most_threads, self.depth, self.whiles, self.even = threads, depth, whiles, even
        self.widths = [width for width in WIDTHS if width <= most_width]

    def flip(self, chance):
        return self.random.random() < chance

    def image(self):
        many = self.random.randint(2, self.most_levels)
        self.levels = order_of(many, [(low, many - 1) for low in range(many - 1)] +
                               [(low, high) for low in range(many) for high in range(low + 1, many) if self.flip(0.3)])
        self.boxes = [(self.lot(), self.random.choice(self.widths), self.random.randrange(2))
                      for _ in range(self.random.randint(0, 2))]
        self.rows = [(self.lot(), self.random.choice(self.widths), self.random.choice([1, 2, 3]))
                     for _ in range(self.random.randint(0, 1))]
        threads = tuple(self.thread() for _ in range(self.random.randint(1, self.most_threads)))
        return (self.levels, tuple(self.boxes), tuple(self.rows), threads)

    def thread(self):
        self.places = [self.random.choice(self.widths) for _ in range(self.random.randint(1, 3))]
        self.code, self.marks = [], {}
        end = self.mark()
        self.emit(self.side(self.depth), end)
        self.marks[end] = len(self.code)
        self.code.append(("end",) if self.flip(0.8) else ("jump", end))
        # A loop over all of the code, if it does not end.
        if self.code[-1] != ("end",):
            self.marks[end] = self.random.choice([0, len(self.code) - 1])
        code = tuple((part[0], self.marks[part[1]]) if part[0] in ("jump", "else") else part for part in self.code)
        return (tuple(self.places), code)

    def mark(self):
        self.marks[len(self.marks)] = None
        return len(self.marks) - 1

    def level(self):
        top = len(self.levels) - 1
        return top if self.flip(0.4) else self.random.randrange(top + 1)

    def word(self, depth=1):
        """Instructions that put one word on the stack."""
        kinds = ["push", "local", "local", "take", "take"]
        kinds += ["box"] if self.boxes else []
        kinds += ["cell"] if self.rows and depth else []
        kinds += ["op", "op"] if depth else []
        kind = self.random.choice(kinds)
        width = self.random.choice(self.widths)
        if kind == "push":
            return [(kind, width, self.random.randrange(2))]
        if kind == "take":
            return [(kind, self.level(), width)]
        if kind == "op":
            return [*self.word(0), *self.word(0), (kind, self.random.choice(OPS), width)]
        if kind == "cell":
            return [*self.word(0), (kind, self.random.randrange(len(self.rows)))]
        return [(kind, self.random.randrange(len(self.places if kind == "local" else self.boxes)))]

    def leaf(self):
        kinds = ["keep", "keep", "out", "rest"]
        kinds += ["fill"] if self.boxes else []
        kinds += ["cells"] if self.rows else []
        kind = self.random.choice(kinds)
        if kind == "rest":
            return [("rest",)] * self.random.randint(0, 2)
        if kind == "cells":
            return [*self.word(0), *self.word(0), (kind, self.random.randrange(len(self.rows)))]
        if kind == "out":
            return [*self.word(), (kind, self.level())]
        return [*self.word(), (kind, self.random.randrange(len(self.places if kind == "keep" else self.boxes)))]

    def side(self, depth):
        side = []
        for _ in range(self.random.choice([1, 1, 2, 3])):
            if depth and self.flip(0.6):
                if self.flip(self.whiles):
                    side.append(("while", self.word(), self.side(depth - 1)))
                else:
                    side.append(self.choice(depth))
            else:
                side.append(("leaf", self.leaf()))
        return side

    def choice(self, depth):
        sides = [self.side(depth - 1), self.side(depth - 1)]
        times = [self.time(side) for side in sides]
        if None not in times and self.flip(self.even):
            for side, time in zip(sides, times):
                if time < max(times):
                    # Rests within the part ahead, so that no jump is put in.
                    self.lengthen(side, max(times) - time)
        return ("if", self.word(), *sides)

    def lengthen(self, side, many):
        kind, first, *rest = side[0]
        side[0] = (kind, [("rest",)] * many + first, *rest)

    def time(self, side):
        times = [self.tree_time(tree) for tree in side]
        return None if None in times else sum(times)

    def tree_time(self, tree):
        if tree[0] == "leaf":
            return len(tree[1]) + 1
        times = [self.time(side) for side in tree[2:]]
        return None if tree[0] == "while" or None in times or times[0] != times[-1] else len(tree[1]) + 1 + times[0]

    def emit(self, side, mark):
        for tree in side[:-1]:
            behind = self.mark()
            self.emit_tree(tree, behind)
            self.marks[behind] = len(self.code)
        self.emit_tree(side[-1], mark)

    def emit_tree(self, tree, mark):
        top, other = self.mark(), self.mark()
        self.marks[top] = len(self.code)
        self.code += tree[1]
        if tree[0] == "leaf":
            self.code.append(("jump", mark))
            return
        self.code.append(("else", mark if tree[0] == "while" else other))
        self.emit(tree[2], top if tree[0] == "while" else mark)
        self.marks[other] = len(self.code)
        if tree[0] == "if":
            self.emit(tree[3], mark)

    def few_words(self):
        """An input with small words."""
        return tuple(tuple(self.random.choice([0, 1, 2, 5, 17]) for _ in range(self.random.randint(0, 6))) for _ in self.levels)

    def alike_input(self, inputs, level):
        """Another one that is alike for a level."""
        other = self.few_words()
        return tuple(inputs[low] if low in self.levels[level] else other[low] for low in range(len(self.levels)))


def repaired_image(image):
    """The image with the last level for each out and take, and all levels for each box and row, that is a fault of its
    least paper; None if it has none."""
    top = len(image[0]) - 1
    while True:
        paper = least_paper(image)
        if paper is None:
            return None
        fault = paper_fault(image, paper)
        if fault is None:
            return image
        thread, row, _ = fault
        act = image[3][thread][1][row]
        if act[0] in ("out", "take"):
            image = replaced(image, (3, thread, 1, row, 1), top)
        elif act[0] in ("fill", "cells"):
            image = replaced(image, (1 if act[0] == "fill" else 2, act[1], 0), tuple(range(top + 1)))
        else:
            return None


def even_images(many, **settings):
    for seed in range(many):
        maker = EvenMaker(seed, **settings)
        yield maker, maker.image()


def harmless_images(many, **settings):
    """Of so many images those that are harmless when they are repaired."""
    for maker, image in even_images(many, **settings):
        image = repaired_image(image)
        if image is not None:
            yield maker, image
