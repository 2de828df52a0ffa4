"""Programs made at random, always the same ones for one number, for tests."""
import random

from lookalike.orders import order_of
from lookalike.words import OPS, WIDTHS, op_width

PLACE_NAMES = ["a", "b", "c", "d", "e", "add", "lt", "f", "g", "x0", "_", "A1"]


class Maker:
    """Makes right programs, small enough to be run."""

    def __init__(self, seed, levels=4, told=None, rounds=True):
        self.random = random.Random(seed)
        self.most_levels = levels
        self.told = told
        self.rounds = rounds
        self.statements = 0

    def flip(self, chance):
        return self.random.random() < chance

    def order(self):
        levels = self.random.randint(1, self.most_levels)
        names = list(range(levels))
        self.random.shuffle(names)
        pairs = []
        for low in range(levels):
            for high in range(low + 1, levels):
                if self.flip(0.4):
                    pairs.append((names[low], names[high]))
        return order_of(levels, pairs)

    def lot(self):
        is_told = self.flip(0.5) if self.told is None else self.told
        if not is_told:
            return None
        return tuple(level for level in range(len(self.levels)) if self.flip(0.35))

    def place(self, name):
        return (name, self.lot(), self.random.choice(WIDTHS))

    def places(self, names, most):
        chosen = []
        for _ in range(self.random.randint(0, most)):
            free = [name for name in PLACE_NAMES if name not in names and name not in [at[0] for at in chosen]]
            chosen.append(self.place(self.random.choice(free)))
        return tuple(chosen)

    def program(self):
        self.levels = self.order()
        boxes, rows = [], []
        for number in range(self.random.randint(0, 2)):
            place = self.place(f"box{number}")
            boxes.append((*place, self.random.randrange(1 << place[2])))
        for number in range(self.random.randint(0, 2)):
            rows.append((*self.place(f"row{number}"), self.random.choice([1, 2, 3, 64])))
        self.boxes = {box[0]: box[2] for box in boxes}
        self.rows = {row[0]: row[2] for row in rows}
        self.functions = {}
        functions = [self.function(name) for name in ["f", "g", "h"][:self.random.randint(0, 3)]]
        threads = [self.thread(name) for name in ["t", "u", "v"][:self.random.randint(1, 3)]]
        return (self.levels, tuple(boxes), tuple(rows), tuple(functions), tuple(threads))

    def function(self, name):
        params = self.places([], 3)
        places = self.places([place[0] for place in params], 2)
        self.known = {**self.boxes, **{place[0]: place[2] for place in params + places}}
        self.statements = 5
        block = self.block(2)
        width = self.random.choice(WIDTHS)
        result = self.expression(width, 2)
        self.functions[name] = ([place[2] for place in params], width)
        return (name, params, places, block, result)

    def thread(self, name):
        places = self.places([], 4)
        self.known = {**self.boxes, **{place[0]: place[2] for place in places}}
        self.statements = 12
        return (name, places, self.block(3))

    def block(self, depth):
        block = []
        while self.statements > 0 and self.flip(0.8):
            self.statements -= 1
            block.append(self.statement(depth))
        return tuple(block)

    def any_expression(self, depth):
        return self.expression(self.random.choice(WIDTHS), depth)

    def statement(self, depth):
        level = self.random.randrange(len(self.levels))
        words = ["out", "skip"]
        if self.known:
            words += ["set", "set", "set", "take", "take"]
        if self.rows:
            words += ["put"]
        if depth > 0:
            words += ["if", "if", "times"]
            if self.rounds:
                words += ["while"]
        word = self.random.choice(words)
        if word == "out":
            return (word, level, self.any_expression(3))
        if word == "skip":
            return (word, self.random.randint(0, 3))
        if word == "set":
            name = self.random.choice(sorted(self.known))
            return (word, name, self.expression(self.known[name], 3))
        if word == "take":
            return (word, self.random.choice(sorted(self.known)), level)
        if word == "put":
            name = self.random.choice(sorted(self.rows))
            return (word, name, self.any_expression(2), self.expression(self.rows[name], 3))
        if word == "times":
            return (word, self.random.randint(0, 3), self.block(depth - 1))
        if word == "while":
            return (word, self.any_expression(2), self.block(depth - 1))
        return (word, self.any_expression(2), self.block(depth - 1), self.block(depth - 1))

    def expression(self, width, depth):
        words = ["word"]
        names = sorted(name for name in self.known if self.known[name] == width)
        rows = sorted(name for name in self.rows if self.rows[name] == width)
        calls = sorted(name for name in self.functions if self.functions[name][1] == width)
        if names:
            words += ["name", "name", "name"]
        if depth > 0:
            words += ["op", "op"]
            words += ["at"] if rows else []
            words += ["call", "call"] if calls else []
        word = self.random.choice(words)
        if word == "word":
            top = (1 << width) - 1
            return (word, width, self.random.choice([0, 1, top, self.random.randint(0, top)]))
        if word == "name":
            return (word, self.random.choice(names))
        if word == "at":
            return (word, self.random.choice(rows), self.any_expression(depth - 1))
        if word == "call":
            name = self.random.choice(calls)
            return (word, name, tuple(self.expression(need, depth - 1) for need in self.functions[name][0]))
        ops = [op for op in OPS if width == 1 or op_width(op, width) == width]
        op = self.random.choice(ops)
        inner = self.random.choice(WIDTHS) if op in ("eq", "lt") else width
        return (word, op, self.expression(inner, depth - 1), self.expression(inner, depth - 1))

    def input(self, order):
        return tuple(tuple(self.random.choice([0, 1, 2, 5, 300, 1 << 33]) for _ in range(self.random.randint(0, 5)))
                     for _ in order)


def made_programs(many, **settings):
    """So many programs, each with its maker."""
    for seed in range(many):
        maker = Maker(seed, **settings)
        yield maker, maker.program()
