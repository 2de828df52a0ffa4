"""From texts to images with papers, and what levels see of their runs."""
from lookalike.compiling import compiled
from lookalike.faults import let_by
from lookalike.leastpapers import least_paper
from lookalike.machine import run_image
from lookalike.padding import padded_program
from lookalike.papers import end_lots
from lookalike.reading import read_program
from lookalike.records import seen


def made(text):
    """The padded program of any value, a text that is let by, its image, and the paper of this."""
    program = padded_program(let_by(read_program(text)))
    image = compiled(program)
    return (program, image, least_paper(image))


def sight(image, paper, inputs, level, ticks):
    """What the level sees of so many ticks."""
    return seen(image[0], level, end_lots(paper), run_image(image, inputs, ticks))


def first_unlike(image, paper, one, other, level, ticks):
    """None if two inputs show the level the same for so many ticks, else the least number for which they do not."""
    here = sight(image, paper, one, level, ticks)
    there = sight(image, paper, other, level, ticks)
    at = 0
    while at < len(here) and at < len(there) and here[at] == there[at]:
        at += 1
    # The next pairs tell when something is seen that is not seen in the other run.
    ticks_left = [part[at][0] for part in (here, there) if at < len(part)]
    return min(ticks_left) + 1 if ticks_left else None
