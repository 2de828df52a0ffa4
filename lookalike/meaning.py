"""What programs do, tick by tick."""
from lookalike.tasks import ThreadText
from lookalike.walkers import Walker, first_walker
from lookalike.words import wrapped


class Play:
    """A run of a program that goes on from some state.

    Streams stand turned about, the next word last.
    """

    def __init__(self, program, state):
        self.now = state[0]
        self.boxes = list(state[1])
        self.rows = [list(cells) for cells in state[2]]
        self.streams = [list(reversed(stream)) for stream in state[3]]
        self.walkers = []
        for thread, parts in enumerate(state[4]):
            self.walkers.append(state_walker(program, thread, parts))

    def state(self):
        """The state to which the run came."""
        rows = tuple([tuple(cells) for cells in self.rows])
        streams = tuple([tuple(reversed(stream)) for stream in self.streams])
        threads = tuple([None if walker is None else walker.parts() for walker in self.walkers])
        return (self.now, tuple(self.boxes), rows, streams, threads)

    def turn(self):
        """The thread whose tick is next."""
        return self.now % len(self.walkers)

    def step(self):
        """Let one tick pass, and tell its deed, or None."""
        thread = self.turn()
        walker = self.walkers[thread]
        self.now += 1
        if walker is None:
            return None
        if not walker.todo:
            self.walkers[thread] = None
            return ("end", thread)
        act = walker.next_act()
        deed = walker.step()
        if deed is None or deed[0] == "out":
            return deed
        if deed[0] == "fill":
            self.boxes[deed[1]] = deed[2]
        elif deed[0] == "cells":
            self.rows[deed[1]][deed[2]] = deed[3]
        else:
            walker.hear(self.told(deed, act))
        return None

    def told(self, deed, act):
        """The word that is read by an act."""
        if deed[0] == "box":
            return self.boxes[deed[1]]
        if deed[0] == "cell":
            return self.rows[deed[1]][deed[2]]
        stream = self.streams[deed[1]]
        return wrapped(stream.pop(), act[2]) if stream else 0

    def advance(self, ticks):
        """Let so many ticks pass, and tell their record."""
        record = []
        end = self.now + ticks
        while self.now < end and any([walker is not None for walker in self.walkers]):
            for _ in range(min(len(self.walkers), end - self.now)):
                deed = self.step()
                if deed is not None:
                    record.append((self.now - 1, deed))
        # Where all threads have ended only the tick changes.
        self.now = end
        return tuple(record)


def state_walker(program, thread, parts):
    """A thread in a state, None if it has ended."""
    if parts is None:
        return None
    todo, words, held = parts
    return Walker(ThreadText(program, thread), list(reversed(todo)), list(words), list(held))


def start_program(program, inputs):
    """The state of a program at its start, with these inputs."""
    boxes = tuple([box[3] for box in program[1]])
    rows = tuple([(0,) * row[3] for row in program[2]])
    threads = []
    for thread in range(len(program[4])):
        threads.append(first_walker(ThreadText(program, thread)).parts())
    return (0, boxes, rows, inputs, tuple(threads))


def step_program(program, state):
    """A pair of the state behind one tick and the tuple of the deeds of this tick."""
    play = Play(program, state)
    deed = play.step()
    return (play.state(), () if deed is None else (deed,))


def advance_program(program, state, ticks):
    """A pair of the state behind so many ticks and their record."""
    play = Play(program, state)
    record = play.advance(ticks)
    return (play.state(), record)


def run_program(program, inputs, ticks):
    """The record of so many ticks from the start."""
    return advance_program(program, start_program(program, inputs), ticks)[1]
