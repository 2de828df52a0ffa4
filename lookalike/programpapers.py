"""The papers of programs."""
from lookalike.compiling import compiled
from lookalike.labels import labelled
from lookalike.leastpapers import least_paper
from lookalike.padding import padded_program


def program_paper(program):
    """The least paper of the code of a program, labelled and padded."""
    return least_paper(compiled(padded_program(labelled(program))))
