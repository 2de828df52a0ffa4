"""Runs of images whose words are asked for when they are taken."""
from lookalike.machine import Machine
from lookalike.states import start_state
from lookalike.visible import is_deed_seen


def run_sights(image, ends, level, ask, words, ticks):
    """The pairs of tick and sight that a level sees in so many ticks from the start.

    At a take that it sees `ask` tells the word by the list of the pairs so far;
    other takes tell these words, one after another, 0 when none are left.
    """
    order = image[0]
    machine = Machine(image, start_state(image, ((),) * len(order)))
    left = list(reversed(words))
    told = []
    while machine.now < ticks and machine.going > 0:
        tick = machine.now
        instruction = machine.next_instruction()
        if instruction is not None and instruction[0] == "take":
            taken = instruction[1]
            if taken in order[level]:
                told.append((tick, ("take", taken)))
                word = ask(told)
            else:
                word = left.pop() if left else 0
            machine.streams[taken] = [word]
        deed = machine.step()
        if deed is not None and is_deed_seen(order, ends, level, deed):
            told.append((tick, deed))
    return tuple(told)
