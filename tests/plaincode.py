"""Another way to make code, and to tell what is left to do at its rows: by the table of chapter 5, part by part."""
from lookalike.words import op_width


class PlainCode:
    """The code of a thread, with the spot of each instruction."""

    def __init__(self, program, thread):
        self.program = program
        self.boxes = [box[0] for box in program[1]]
        self.rows = [row[0] for row in program[2]]
        self.shared = {part[0]: part[2] for part in program[1] + program[2]}
        self.functions = {function[0]: function for function in program[3]}
        name, places, self.block = program[4][thread]
        self.name = name
        self.frame = [(name, place[0], place[2]) for place in places]
        for function in program[3]:
            self.frame += [(function[0], place[0], place[2]) for place in function[1] + function[2]]
        self.numbers = {(owner, place): number for number, (owner, place, _) in enumerate(self.frame)}

    def widths(self):
        return tuple(width for _, _, width in self.frame)

    def place_width(self, owner, name):
        number = self.numbers.get((owner, name))
        return self.shared[name] if number is None else self.frame[number][2]

    def width(self, owner, expression):
        word = expression[0]
        if word == "word":
            return expression[1]
        if word == "op":
            return op_width(expression[1], self.width(owner, expression[2]))
        if word == "call":
            return self.width(expression[1], self.functions[expression[1]][4])
        return self.place_width(owner, expression[1])

    def act(self, owner, name, of_local, of_box):
        if (owner, name) in self.numbers:
            return ("", (of_local, self.numbers[owner, name]))
        return ("", (of_box, self.boxes.index(name)))

    def parts(self, owner, x):
        """What stands in the place of an expression or statement, None if it is taken as it is."""
        word = x[0]
        if word == "word":
            return [("", ("push", x[1], x[2]))]
        if word == "name":
            return [self.act(owner, x[1], "local", "box")]
        if word == "at":
            return [(owner, x[2]), ("", ("cell", self.rows.index(x[1])))]
        if word == "op":
            return [(owner, x[2]), (owner, x[3]), ("", ("op", x[1], self.width(owner, x[2])))]
        if word == "call":
            name, params, places, block, result = self.functions[x[1]]
            found = [(owner, arg) for arg in x[2]]
            found += [self.act(name, place[0], "keep", "fill") for place in params[::-1]]
            for place in places:
                found += [("", ("push", place[2], 0)), self.act(name, place[0], "keep", "fill")]
            return found + [(name, statement) for statement in block] + [(name, result)]
        if word == "set":
            return [(owner, x[2]), self.act(owner, x[1], "keep", "fill")]
        if word == "put":
            return [(owner, x[2]), (owner, x[3]), ("", ("cells", self.rows.index(x[1])))]
        if word == "if":
            return [(owner, x[1]), (owner, ("choose", x[2], x[3]))]
        if word == "while":
            return [(owner, x[1]), (owner, ("test", x[1], x[2]))]
        if word == "times":
            return [*[(owner, part) for part in x[2]], (owner, ("times", x[1] - 1, x[2]))] if x[1] > 0 else []
        if word == "out":
            return [(owner, x[2]), ("", ("out", x[1]))]
        if word == "take":
            return [("", ("take", x[2], self.place_width(owner, x[1]))), self.act(owner, x[1], "keep", "fill")]
        return [("", ("rest",))] * x[1] if word == "skip" else None

    def unfold(self, todo):
        while todo and todo[0][0] != "":
            parts = self.parts(*todo[0])
            if parts is None:
                break
            todo = (*parts, *todo[1:])
        return tuple(todo)

    def code(self):
        """Pairs of an instruction and a spot."""
        self.made = []
        self.emit_block(self.name, (), self.block)
        self.made.append([("end",), (self.name, ())])
        return self.made

    def emit_block(self, owner, place, block):
        for index, statement in enumerate(block):
            self.emit_statement(owner, (*place, index), statement)

    def emit_statement(self, owner, place, statement):
        spot = (owner, place)
        word = statement[0]
        if word == "if":
            self.emit(owner, statement[1], spot)
            choice = self.put(("else", None), spot)
            self.emit_block(owner, (*place, 0), statement[2])
            jump = self.put(("jump", None), spot)
            self.made[choice][0] = ("else", len(self.made))
            self.emit_block(owner, (*place, 1), statement[3])
            self.put(("rest",), spot)
            self.made[jump][0] = ("jump", len(self.made))
        elif word == "while":
            top = len(self.made)
            self.emit(owner, statement[1], spot)
            choice = self.put(("else", None), spot)
            self.emit_block(owner, (*place, 0), statement[2])
            self.put(("jump", top), spot)
            self.made[choice][0] = ("else", len(self.made))
        elif word == "times":
            for _ in range(statement[1]):
                self.emit_block(owner, (*place, 0), statement[2])
        else:
            self.emit(owner, statement, spot)

    def put(self, instruction, spot):
        self.made.append([instruction, spot])
        return len(self.made) - 1

    def emit(self, owner, x, spot):
        if x[0] == "call":
            name, params, places, block, result = self.functions[x[1]]
            for arg in x[2]:
                self.emit(owner, arg, spot)
            for _, act in self.parts(owner, x)[len(x[2]):len(x[2]) + len(params) + 2 * len(places)]:
                self.put(act, spot)
            self.emit_block(name, (), block)
            self.emit(name, result, (name, ()))
            return
        for inner, part in self.parts(owner, x):
            if inner == "":
                self.put(part, spot)
            else:
                self.emit(inner, part, spot)

    def likeness(self, code):
        """What is left to do at each row, None if the code does other things."""
        todos = [None] * len(code)
        waiting = [(0, tuple((self.name, statement) for statement in self.block))]
        while waiting:
            row, todo = waiting.pop()
            todo = self.unfold(todo)
            if todos[row] is not None:
                if todos[row] != todo:
                    return None
                continue
            todos[row] = todo
            instruction, nexts = code[row], None
            if todo == ():
                nexts = [] if instruction == ("end",) else None
            elif todo[0][0] == "" and todo[0] != ("", ("rest",)):
                nexts = [(row + 1, todo[1:])] if instruction == todo[0][1] else None
            else:
                owner, x = todo[0]
                if x[0] in ("rest", "again"):
                    left = todo[1:] if x[0] == "rest" else ((owner, ("while", x[1], x[2])), *todo[1:])
                    target = {"rest": row + 1, "jump": instruction[-1]}.get(instruction[0])
                    nexts = None if target is None else [(target, left)]
                elif instruction[0] == "else":
                    blocks = (x[1], x[2]) if x[0] == "choose" else (x[2], ())
                    behind = {"choose": (("", ("rest",)),), "test": ((owner, ("again", x[1], x[2])),)}[x[0]]
                    one, other = [tuple((owner, part) for part in block) for block in blocks]
                    nexts = [(row + 1, one + behind + todo[1:]),
                             (instruction[1], other + (behind if x[0] == "choose" else ()) + todo[1:])]
            if nexts is None:
                return None
            waiting += nexts
        return tuple(todos)


def plain_image(program):
    """The image of a program."""
    order, boxes, rows, _, threads = program
    made = [PlainCode(program, thread) for thread in range(len(threads))]
    return (order, tuple(box[1:] for box in boxes), tuple(row[1:] for row in rows),
            tuple((part.widths(), tuple(instruction for instruction, _ in part.code())) for part in made))


def plain_likeness(program, image):
    """The likeness of a program and an image, None if there is none."""
    if plain_image(program)[:3] != image[:3] or len(program[4]) != len(image[3]):
        return None
    found = []
    for thread, (widths, code) in enumerate(image[3]):
        made = PlainCode(program, thread)
        found.append(made.likeness(code) if widths == made.widths() else None)
    return None if None in found else tuple(found)
