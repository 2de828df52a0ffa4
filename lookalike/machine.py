"""The machine: what images do, tick by tick."""
from lookalike.states import start_state
from lookalike.words import word_op, wrapped


class Runner:
    """A thread that has not ended: its code, the widths of its locals, its next row, its stack, and its locals."""

    def __init__(self, widths, code, parts):
        self.widths = widths
        self.code = code
        self.row = parts[0]
        self.words = list(parts[1])
        self.held = list(parts[2])

    def take_word(self):
        """Take a word from the stack, 0 if it is empty."""
        return self.words.pop() if self.words else 0


class Machine:
    """A run of an image that goes on from some state.

    Streams stand turned about, the next word last.
    """

    def __init__(self, image, state):
        self.box_widths = [width for _, width, _ in image[1]]
        self.row_widths = [width for _, width, _ in image[2]]
        self.now = state[0]
        self.boxes = list(state[1])
        self.rows = [list(cells) for cells in state[2]]
        self.streams = [list(reversed(stream)) for stream in state[3]]
        self.runners = []
        for (widths, code), parts in zip(image[3], state[4]):
            self.runners.append(None if parts is None else Runner(widths, code, parts))
        # How many threads have not ended.
        self.going = len([parts for parts in state[4] if parts is not None])

    def state(self):
        """The state to which the run came."""
        rows = tuple([tuple(cells) for cells in self.rows])
        streams = tuple([tuple(reversed(stream)) for stream in self.streams])
        threads = []
        for runner in self.runners:
            threads.append(None if runner is None else (runner.row, tuple(runner.words), tuple(runner.held)))
        return (self.now, tuple(self.boxes), rows, streams, tuple(threads))

    def next_instruction(self):
        """The instruction that is next, None if the thread whose tick it is has ended."""
        runner = self.runners[self.now % len(self.runners)]
        return None if runner is None else runner.code[runner.row]

    def step(self):
        """Let one tick pass, and tell its deed, or None."""
        thread = self.now % len(self.runners)
        runner = self.runners[thread]
        self.now += 1
        if runner is None:
            return None
        instruction = runner.code[runner.row]
        runner.row += 1
        if instruction[0] == "end":
            self.runners[thread] = None
            self.going -= 1
            return ("end", thread)
        action = ACTIONS[instruction[0]]
        return action(self, runner, instruction)

    def advance(self, ticks):
        """Let so many ticks pass, fewer if all threads end ahead of that, and tell their record."""
        record = []
        end = self.now + ticks
        while self.now < end and self.going > 0:
            deed = self.step()
            if deed is not None:
                record.append((self.now - 1, deed))
        return tuple(record)


def do_push(_, runner, instruction):
    runner.words.append(instruction[2])


def do_local(_, runner, instruction):
    runner.words.append(runner.held[instruction[1]])


def do_keep(_, runner, instruction):
    runner.held[instruction[1]] = wrapped(runner.take_word(), runner.widths[instruction[1]])


def do_box(machine, runner, instruction):
    runner.words.append(machine.boxes[instruction[1]])


def do_fill(machine, runner, instruction):
    machine.boxes[instruction[1]] = wrapped(runner.take_word(), machine.box_widths[instruction[1]])


def do_cell(machine, runner, instruction):
    cells = machine.rows[instruction[1]]
    runner.words.append(cells[runner.take_word() % len(cells)])


def do_cells(machine, runner, instruction):
    cells = machine.rows[instruction[1]]
    word = wrapped(runner.take_word(), machine.row_widths[instruction[1]])
    cells[runner.take_word() % len(cells)] = word


def do_op(_, runner, instruction):
    width = instruction[2]
    other = wrapped(runner.take_word(), width)
    one = wrapped(runner.take_word(), width)
    runner.words.append(word_op(instruction[1], width, one, other))


def do_jump(_, runner, instruction):
    runner.row = instruction[1]


def do_else(_, runner, instruction):
    if runner.take_word() == 0:
        runner.row = instruction[1]


def do_out(_, runner, instruction):
    return ("out", instruction[1], runner.take_word())


def do_take(machine, runner, instruction):
    stream = machine.streams[instruction[1]]
    runner.words.append(wrapped(stream.pop(), instruction[2]) if stream else 0)


def do_rest(_, runner, instruction):
    return None


ACTIONS = {
    "push": do_push,
    "local": do_local,
    "keep": do_keep,
    "box": do_box,
    "fill": do_fill,
    "cell": do_cell,
    "cells": do_cells,
    "op": do_op,
    "jump": do_jump,
    "else": do_else,
    "out": do_out,
    "take": do_take,
    "rest": do_rest,
}


def step_image(image, state):
    """A pair of the state behind one tick and the tuple of the deeds of this tick."""
    machine = Machine(image, state)
    deed = machine.step()
    return (machine.state(), () if deed is None else (deed,))


def advance(image, state, ticks):
    """A pair of the state behind so many ticks and their record."""
    machine = Machine(image, state)
    record = machine.advance(ticks)
    # Where all threads have ended only the tick changes.
    machine.now = state[0] + ticks
    return (machine.state(), record)


def run_image(image, inputs, ticks):
    """The record of so many ticks from the start."""
    return advance(image, start_state(image, inputs), ticks)[1]


def whole_run(image, inputs, most):
    """A pair of the record and the number of ticks until the run is over, None if these are more than so many."""
    machine = Machine(image, start_state(image, inputs))
    record = machine.advance(most)
    return (record, machine.now) if machine.going == 0 else None


def thread_deeds(record, thread, many):
    """The pairs of a record in slots of a thread, of so many threads, each with the number of the slot."""
    return tuple([(tick // many, deed) for tick, deed in record if tick % many == thread])
