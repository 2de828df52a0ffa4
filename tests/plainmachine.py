"""Another way to run images: each thread does as chapter 11 of the document tells, with a stop behind each slot."""


class PlainMachine:
    """A run of an image with these inputs, from the start."""

    def __init__(self, image, inputs):
        _, boxes, rows, threads = image
        self.image = image
        self.boxes = {number: word for number, (_, _, word) in enumerate(boxes)}
        self.rows = {number: dict.fromkeys(range(size), 0) for number, (_, _, size) in enumerate(rows)}
        self.spent = [0] * len(inputs)
        self.inputs = inputs
        self.stacks = [()] * len(threads)
        self.held = [dict.fromkeys(range(len(widths)), 0) for widths, _ in threads]
        self.at = [0] * len(threads)
        self.ways = [self.thread(number) for number in range(len(threads))]

    def pop(self, number):
        stack = self.stacks[number]
        self.stacks[number] = stack[:-1]
        return (stack or (0,))[-1]

    def push(self, number, word):
        self.stacks[number] += (word,)

    def thread(self, number):
        widths, code = self.image[3][number]
        while True:
            word, *parts = code[self.at[number]]
            self.at[number] += 1
            deed = None
            if word == "end":
                self.at[number] = None
                yield ("end", number)
                return
            if word == "push":
                self.push(number, parts[1])
            elif word == "local":
                self.push(number, self.held[number][parts[0]])
            elif word == "keep":
                self.held[number][parts[0]] = self.pop(number) & (2 ** widths[parts[0]] - 1)
            elif word == "box":
                self.push(number, self.boxes[parts[0]])
            elif word == "fill":
                self.boxes[parts[0]] = self.pop(number) & (2 ** self.image[1][parts[0]][1] - 1)
            elif word == "cell":
                self.push(number, self.rows[parts[0]][self.pop(number) % self.image[2][parts[0]][2]])
            elif word == "cells":
                held = self.pop(number)
                index = self.pop(number)
                self.rows[parts[0]][index % self.image[2][parts[0]][2]] = held & (2 ** self.image[2][parts[0]][1] - 1)
            elif word == "op":
                self.push(number, self.op(number, *parts))
            elif word == "jump" or word == "else" and self.pop(number) == 0:
                self.at[number] = parts[0]
            elif word == "out":
                deed = ("out", parts[0], self.pop(number))
            elif word == "take":
                level, width = parts
                stream = self.inputs[level]
                self.push(number, stream[self.spent[level]] & (2 ** width - 1) if self.spent[level] < len(stream) else 0)
                self.spent[level] += self.spent[level] < len(stream)
            yield deed

    def op(self, number, op, width):
        top = 2 ** width
        other = self.pop(number) % top
        one = self.pop(number) % top
        k = other % width
        return {"add": one + other, "sub": one - other, "mul": one * other, "div": one // other if other else 0,
                "rem": one % other if other else one, "and": one & other, "or": one | other, "xor": one ^ other,
                "shl": one << k, "shr": one >> k, "eq": int(one == other), "lt": int(one < other)}[op] % top

    def record(self, ticks):
        """The record of so many ticks more."""
        record = []
        for tick in range(ticks):
            deed = next(self.ways[tick % len(self.ways)], None)
            if deed is not None:
                record.append((tick, deed))
        return tuple(record)

    def state(self, tick):
        rows = tuple(tuple(self.rows[number][index] for index in sorted(self.rows[number])) for number in sorted(self.rows))
        threads = tuple(None if row is None else (row, stack, tuple(held[index] for index in sorted(held)))
                        for row, stack, held in zip(self.at, self.stacks, self.held))
        streams = tuple(stream[spent:] for stream, spent in zip(self.inputs, self.spent))
        return (tick, tuple(self.boxes[number] for number in sorted(self.boxes)), rows, streams, threads)
