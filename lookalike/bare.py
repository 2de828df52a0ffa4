"""Bare states: states of images without streams, whose words are handed in when they are taken."""
from lookalike.errors import Refused
from lookalike.machine import ACTIONS, Runner
from lookalike.states import start_state


def bare_start(image):
    """The bare state at the start."""
    _, boxes, rows, _, threads = start_state(image, ())
    return (0, boxes, rows, threads)


def next_instruction(image, bare):
    """The instruction that is next, None if the thread whose tick it is has ended."""
    parts = bare[3][bare[0]]
    return None if parts is None else image[3][bare[0]][1][parts[0]]


def bare_deed(image, bare):
    """What is done to the world at the tick from there: an out, an end, a take, or None."""
    instruction = next_instruction(image, bare)
    if instruction is None:
        return None
    word = instruction[0]
    if word == "out":
        stack = bare[3][bare[0]][1]
        return (word, instruction[1], stack[-1] if stack else 0)
    if word == "end":
        return (word, bare[0])
    return (word, instruction[1]) if word == "take" else None


def words_in(image, bare):
    """How many words may come in at the tick from there."""
    instruction = next_instruction(image, bare)
    return 1 << instruction[2] if instruction is not None and instruction[0] == "take" else 1


class Slot:
    """One slot of a thread: what its instruction may read and change beside the thread."""

    def __init__(self, image, bare, instruction, word):
        _, self.boxes, self.rows, _ = bare
        self.box_widths = [width for _, width, _ in image[1]]
        self.row_widths = [width for _, width, _ in image[2]]
        self.streams = {}
        # Only what is changed has to be a list.
        if instruction[0] == "fill":
            self.boxes = list(self.boxes)
        elif instruction[0] == "cells":
            self.rows = [list(cells) for cells in self.rows]
        elif instruction[0] == "take":
            self.streams[instruction[1]] = [word]


def bare_step(image, bare, word):
    """The bare state behind the tick, a take telling this word."""
    slot, boxes, rows, threads = bare
    behind = (slot + 1) % len(threads)
    instruction = next_instruction(image, bare)
    if instruction is None:
        return (behind, boxes, rows, threads)
    if instruction[0] == "end":
        return (behind, boxes, rows, (*threads[:slot], None, *threads[slot + 1:]))
    widths, code = image[3][slot]
    runner = Runner(widths, code, threads[slot])
    runner.row += 1
    machine = Slot(image, bare, instruction, word)
    action = ACTIONS[instruction[0]]
    action(machine, runner, instruction)
    if instruction[0] == "fill":
        boxes = tuple(machine.boxes)
    elif instruction[0] == "cells":
        rows = tuple([tuple(cells) for cells in machine.rows])
    parts = (runner.row, tuple(runner.words), tuple(runner.held))
    return (behind, boxes, rows, (*threads[:slot], parts, *threads[slot + 1:]))


class Explored:
    """All bare states of an image, round by round, and where words lead from each."""

    def __init__(self, image, most):
        self.image = image
        self.most = most
        self.states = []
        # The index of each bare state.
        self.indexes = {}
        # For each state the index of the one behind each word that may come in, in order.
        self.nexts = []
        # For each state but the first one the index of one that leads to it, and the word by which it does.
        self.comings = []
        self.number_of(bare_start(image), (0, 0))
        while len(self.nexts) < len(self.states):
            self.go_on(len(self.nexts))

    def number_of(self, bare, coming):
        """The index of a bare state to which something leads."""
        if bare not in self.indexes:
            if len(self.states) >= self.most:
                raise Refused(self.most)
            self.indexes[bare] = len(self.states)
            self.states.append(bare)
            self.comings.append(coming)
        return self.indexes[bare]

    def go_on(self, number):
        """Find what stands behind the state with this index."""
        bare = self.states[number]
        nexts = []
        for word in range(words_in(self.image, bare)):
            nexts.append(self.number_of(bare_step(self.image, bare, word), (number, word)))
        self.nexts.append(nexts)


def bare_states(image, most):
    """All bare states to which steps lead from the start, round by round."""
    return tuple(Explored(image, most).states)
