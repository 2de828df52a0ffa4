"""Another way to run programs: each thread goes through its text, with a stop behind each slot."""
from lookalike.words import op_width, word_op


class Plain:
    """A run of a program with these inputs."""

    def __init__(self, program, inputs):
        _, boxes, rows, functions, threads = program
        self.boxes = {box[0]: box[3] for box in boxes}
        self.rows = {row[0]: [0] * row[3] for row in rows}
        self.widths = {part[0]: part[2] for part in boxes + rows}
        self.functions = {function[0]: function for function in functions}
        self.streams = [list(stream) for stream in inputs]
        self.choices = [[] for _ in threads]
        self.read = [[] for _ in threads]
        self.ways = [self.thread(number, thread) for number, thread in enumerate(threads)]

    def record(self, ticks):
        record = []
        for tick in range(ticks):
            deed = next(self.ways[tick % len(self.ways)], None)
            if deed is not None:
                record.append((tick, deed))
        return tuple(record)

    def thread(self, number, thread):
        name, places, block = thread
        frames = {name: {place[0]: [place[2], 0] for place in places}}
        for function in self.functions.values():
            frames[function[0]] = {place[0]: [place[2], 0] for place in function[1] + function[2]}
        self.frames = frames
        yield from self.block(number, frames, name, block)
        yield ("end", number)

    def block(self, number, frames, owner, block):
        for statement in block:
            yield from self.statement(number, frames, owner, statement)

    def store(self, frames, owner, name, word):
        if name in frames[owner]:
            frames[owner][name][1] = word % 2 ** frames[owner][name][0]
        else:
            self.boxes[name] = word % 2 ** self.widths[name]

    def width_of_name(self, frames, owner, name):
        return frames[owner][name][0] if name in frames[owner] else self.widths[name]

    def statement(self, number, frames, owner, statement):
        word = statement[0]
        if word == "set":
            result, _ = yield from self.value(number, frames, owner, statement[2])
            self.store(frames, owner, statement[1], result)
            yield None
        elif word == "put":
            index, _ = yield from self.value(number, frames, owner, statement[2])
            result, _ = yield from self.value(number, frames, owner, statement[3])
            cells = self.rows[statement[1]]
            cells[index % len(cells)] = result
            yield None
        elif word == "out":
            result, _ = yield from self.value(number, frames, owner, statement[2])
            yield ("out", statement[1], result)
        elif word == "take":
            stream = self.streams[statement[2]]
            width = self.width_of_name(frames, owner, statement[1])
            result = stream.pop(0) % 2 ** width if stream else 0
            self.read[number].append(result)
            yield None
            self.store(frames, owner, statement[1], result)
            yield None
        elif word == "skip":
            for _ in range(statement[1]):
                yield None
        elif word == "times":
            for _ in range(statement[1]):
                yield from self.block(number, frames, owner, statement[2])
        elif word == "if":
            result, _ = yield from self.value(number, frames, owner, statement[1])
            self.choices[number].append(int(result != 0))
            yield None
            yield from self.block(number, frames, owner, statement[2] if result else statement[3])
            yield None
        else:
            yield from self.rounds(number, frames, owner, statement)

    def rounds(self, number, frames, owner, statement):
        while True:
            result, _ = yield from self.value(number, frames, owner, statement[1])
            self.choices[number].append(int(result != 0))
            yield None
            if not result:
                return
            yield from self.block(number, frames, owner, statement[2])
            yield None

    def value(self, number, frames, owner, expression):
        """The word of an expression, and its width."""
        word = expression[0]
        if word == "word":
            result = (expression[2], expression[1])
        elif word == "name" and expression[1] in frames[owner]:
            width, held = frames[owner][expression[1]]
            result = (held, width)
        elif word == "name":
            result = (self.boxes[expression[1]], self.widths[expression[1]])
            self.read[number].append(result[0])
        elif word == "at":
            index, _ = yield from self.value(number, frames, owner, expression[2])
            cells = self.rows[expression[1]]
            result = (cells[index % len(cells)], self.widths[expression[1]])
            self.read[number].append(result[0])
        elif word == "op":
            one, width = yield from self.value(number, frames, owner, expression[2])
            other, _ = yield from self.value(number, frames, owner, expression[3])
            result = (word_op(expression[1], width, one, other), op_width(expression[1], width))
        else:
            return (yield from self.call(number, frames, owner, expression))
        yield None
        return result

    def call(self, number, frames, owner, expression):
        name, params, places, block, result = self.functions[expression[1]]
        words = []
        for arg in expression[2]:
            word, _ = yield from self.value(number, frames, owner, arg)
            words.append(word)
        for place in reversed(params):
            self.store(frames, name, place[0], words.pop())
            yield None
        for place in places:
            yield None
            self.store(frames, name, place[0], 0)
            yield None
        yield from self.block(number, frames, name, block)
        return (yield from self.value(number, frames, name, result))
