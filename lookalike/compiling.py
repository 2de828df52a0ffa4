"""From programs to code."""
from lookalike.errors import InvalidProgram
from lookalike.measures import SumMeasure, measured
from lookalike.tasks import ThreadText, block_tasks, in_place_of


class Coder:
    """The code of a thread as far as it is made, and the spots of its instructions.

    Until all rows are known, "jump" and "else" tell the number of a mark that
    stands ahead of the row to which they go.
    """

    def __init__(self, text):
        self.text = text
        self.instructions = []
        self.spots = []
        # The row of each mark, None as long as it is not known.
        self.marks = []

    def new_mark(self):
        """The number of a mark more."""
        self.marks.append(None)
        return len(self.marks) - 1

    def put(self, act, spot):
        """Put an instruction, or a mark, behind all others."""
        if act[0] == "mark":
            self.marks[act[1]] = len(self.instructions)
        else:
            self.instructions.append(act)
            self.spots.append(spot)

    def whole_code(self):
        """The instructions, with rows in the place of marks."""
        found = []
        for part in self.instructions:
            found.append((part[0], self.marks[part[1]]) if part[0] in ("jump", "else") else part)
        return tuple(found)


def coded(program, thread):
    """A coder with all code of a thread."""
    coder = Coder(ThreadText(program, thread))
    name, _, block = program[4][thread]
    waiting = list(reversed(spotted_block(name, (), block)))
    while waiting:
        task, spot = waiting.pop()
        if task[0] == "":
            coder.put(task[1], spot)
        else:
            waiting.extend(list(reversed(spotted_parts(coder, task, spot))))
    coder.put(("end",), (name, ()))
    return coder


def spotted_block(owner, place, block):
    """The tasks of the block of an owner at a place, each with its spot."""
    return [(task, (owner, (*place, index))) for index, task in enumerate(block_tasks(owner, block))]


def spotted(tasks, spot):
    """These tasks, all with one spot."""
    return [(task, spot) for task in tasks]


def spotted_parts(coder, task, spot):
    """What stands in the code in the place of a task, each with its spot."""
    owner, work = task
    if work[0] == "if":
        return choice_parts(coder, task, spot)
    if work[0] == "while":
        return loop_parts(coder, task, spot)
    parts = in_place_of(coder.text, task)
    if work[0] == "call":
        # Last come the block and the result of the function.
        name, _, _, block, result = coder.text.functions[work[1]]
        own = parts[:len(parts) - len(block) - 1]
        return [*spotted(own, spot), *spotted_block(name, (), block), ((name, result), (name, ()))]
    if work[0] == "times" and parts:
        # Last come the rounds that are left.
        return [*spotted_block(owner, (*spot[1], 0), work[2]), (parts[-1], spot)]
    return spotted(parts, spot)


def choice_parts(coder, task, spot):
    """The same for an "if"."""
    owner, (_, condition, block, other) = task
    otherwise, behind = coder.new_mark(), coder.new_mark()
    return [
        *spotted([(owner, condition), ("", ("else", otherwise))], spot),
        *spotted_block(owner, (*spot[1], 0), block),
        *spotted([("", ("jump", behind)), ("", ("mark", otherwise))], spot),
        *spotted_block(owner, (*spot[1], 1), other),
        *spotted([("", ("rest",)), ("", ("mark", behind))], spot),
    ]


def loop_parts(coder, task, spot):
    """The same for a "while"."""
    owner, (_, condition, block) = task
    top, behind = coder.new_mark(), coder.new_mark()
    return [
        *spotted([("", ("mark", top)), (owner, condition), ("", ("else", behind))], spot),
        *spotted_block(owner, (*spot[1], 0), block),
        *spotted([("", ("jump", top)), ("", ("mark", behind))], spot),
    ]


def shared_parts(program):
    """The order, the boxes and the rows of the image of a program."""
    order, boxes, rows, _, _ = program
    return (order, tuple([box[1:] for box in boxes]), tuple([row[1:] for row in rows]))


def compiled(program):
    """The image of a program."""
    shared = shared_parts(program)
    if any([part[0] is None for part in shared[1] + shared[2]]):
        raise InvalidProgram(0)
    threads = []
    for thread in range(len(program[4])):
        coder = coded(program, thread)
        threads.append((tuple(coder.text.widths), coder.whole_code()))
    return (*shared, tuple(threads))


def spots(program):
    """For each thread the spots of the instructions of its code: pairs of an owner and a place."""
    return tuple([tuple(coded(program, thread).spots) for thread in range(len(program[4]))])


class SizeMeasure(SumMeasure):
    """Measures parts by the instructions of their code."""

    def either(self, one, other):
        # One side ends with a "jump", the other one with a "rest".
        return one + other + 1


def code_sizes(program):
    """For each thread how many instructions its code has."""
    found = measured(SizeMeasure(), program)
    return tuple([found.block(thread[2]) + 1 for thread in program[4]])
