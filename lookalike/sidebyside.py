"""Two runs side by side, as a level sees them."""
from lookalike.machine import Machine
from lookalike.papers import end_lots
from lookalike.records import is_seen
from lookalike.states import start_state
from lookalike.unwinding import View, fits_entries, fits_paper


def alike_ticks(image, paper, level, one, other, ticks):
    """None if two runs are alike for a level for so many ticks, else the first tick of which this does not hold.

    It is -1 if the states at the start do not fit, or are not alike.
    """
    view = View(image, paper, level)
    starts = [start_state(image, inputs) for inputs in (one, other)]
    # Both stand at the first rows, with nothing on their stacks: so they fit, or do not, together.
    if not fits_paper(image, paper, starts[0]) or view.unlike_between(starts[0], starts[1]) is not None:
        return -1
    ends = end_lots(paper)
    machines = [Machine(image, state) for state in starts]
    for tick in range(ticks):
        if machines[0].going == 0 and machines[1].going == 0:
            return None
        if not is_tick_alike(view, ends, machines[0], machines[1]):
            return tick
    return None


def is_tick_alike(view, ends, one, other):
    """Let a tick pass in two machines in alike states; whether the level sees the same, and they are such again.

    All but the thread whose tick it is, and what this may have changed, is as it was.
    """
    thread = one.now % len(one.runners)
    acts = [machine.next_instruction() for machine in (one, other)]
    deeds = [seen_deed(view, ends, machine.step()) for machine in (one, other)]
    if deeds[0] != deeds[1]:
        return False
    if any(is_change_unlike(view, act, one, other) for act in acts):
        return False
    parts = [thread_parts(machine, thread) for machine in (one, other)]
    if not all(fits_entries(view.paper[thread][0], part) for part in parts):
        return False
    return view.is_thread_alike(thread, parts[0], parts[1])


def thread_parts(machine, thread):
    """What a state tells of a thread."""
    runner = machine.runners[thread]
    return None if runner is None else (runner.row, runner.words, runner.held)


def seen_deed(view, ends, deed):
    """A deed, or None if there is none that the level sees."""
    if deed is None or not is_seen(view.image[0], view.level, ends, deed):
        return None
    return deed


def is_change_unlike(view, act, one, other):
    """Whether what an instruction may have changed beside its thread is seen, and no more alike."""
    if act is None:
        return False
    if act[0] == "fill":
        return view.is_seen(view.image[1][act[1]][0]) and one.boxes[act[1]] != other.boxes[act[1]]
    if act[0] == "cells":
        return view.is_seen(view.image[2][act[1]][0]) and one.rows[act[1]] != other.rows[act[1]]
    # Streams were the same ahead of the tick, and are spent word by word: so they are if they are as long.
    return act[0] == "take" and view.is_seen((act[1],)) and len(one.streams[act[1]]) != len(other.streams[act[1]])
