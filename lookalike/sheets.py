"""Sheets: what was found, such that anyone can check it."""
from lookalike.checker import is_checked
from lookalike.code import is_image
from lookalike.errors import InvalidQuestion, Refused
from lookalike.kinds import is_number, is_sequence, is_tuple_of
from lookalike.leastpapers import least_paper
from lookalike.orders import is_level
from lookalike.papers import are_lots
from lookalike.programs import is_program
from lookalike.refusing import is_refusing_row, refusing_row
from lookalike.visible import is_visible_machine
from lookalike.watched import is_parting, watched

MOST_TAKEN_WIDTH = 4


def is_image_question(question):
    """Whether any value asks for the paper of an image."""
    return is_tuple_of(question, 1) and is_image(question[0])


def is_program_question(question):
    """Whether any value asks for a refusing row of a program."""
    return is_tuple_of(question, 1) and is_program(question[0])


def is_watched_question(question):
    """Whether any value asks what a level sees of an image."""
    if not is_tuple_of(question, 4) or not is_image(question[0]):
        return False
    image, ends, level, most = question
    if not is_tuple_of(ends, len(image[3])) or not are_lots(image[0], ends):
        return False
    return takes_few_words(image) and is_level(len(image[0]), level) and is_number(most)


def takes_few_words(image):
    """Whether the takes of an image are as in those that may be watched."""
    for _, code in image[3]:
        if any(part[0] == "take" and part[2] > MOST_TAKEN_WIDTH for part in code):
            return False
    return True


def find_paper(question):
    """The least paper of the image, None if there is none, or none that is checked."""
    paper = least_paper(question[0])
    return paper if is_checked(question[0], paper) else None


def find_row(question):
    """A refusing row of the program, None if there is none."""
    return refusing_row(question[0])


def find_machine(question):
    """The least visible machine, None if there is none."""
    image, ends, level, most = question
    word, value = watched(image, ends, level, most)
    return value if word == "sees" else None


def find_parting(question):
    """A parting, None if there is none."""
    image, ends, level, most = question
    word, value = watched(image, ends, level, most)
    return value if word == "parts" else None


def is_right_paper(question, value):
    """Whether any value is a paper of the image without a fault."""
    return is_checked(question[0], value)


def is_right_row(question, value):
    """Whether any value is a refusing row of the program."""
    return is_refusing_row(question[0], value)


def is_right_machine(question, value):
    """Whether any value is a visible machine of what is asked."""
    image, ends, level, _ = question
    return is_visible_machine(image, ends, level, value)


def is_right_parting(question, value):
    """Whether any value is a parting of what is asked."""
    image, ends, level, _ = question
    return is_parting(image, ends, level, value)


QUESTIONS = {
    "paper": is_image_question, "row": is_program_question, "sees": is_watched_question, "parts": is_watched_question,
}
FINDERS = {"paper": find_paper, "row": find_row, "sees": find_machine, "parts": find_parting}
CHECKS = {"paper": is_right_paper, "row": is_right_row, "sees": is_right_machine, "parts": is_right_parting}


def is_kind(name):
    """Whether any value is a kind of sheet."""
    return isinstance(name, str) and name in QUESTIONS


def is_question(name, question):
    """Whether any value is a question for a kind of sheet."""
    action = QUESTIONS[name]
    return action(question)


def sheet_holds(value):
    """Whether any value is a sheet that holds."""
    if not is_tuple_of(value, 3) or not is_kind(value[0]) or not is_question(value[0], value[1]):
        return False
    action = CHECKS[value[0]]
    return action(value[1], value[2])


def sheet(name, question):
    """A sheet that holds, of this kind and with this question."""
    if not is_kind(name):
        raise Refused(0)
    if not is_question(name, question):
        raise Refused(1)
    action = FINDERS[name]
    value = action(question)
    if value is None:
        raise Refused(2)
    return (name, question, value)


def wrong_sheets(values):
    """The indexes of those values of a sequence that are no sheets that hold."""
    if not is_sequence(values):
        raise InvalidQuestion(0)
    return tuple([index for index, value in enumerate(values) if not sheet_holds(value)])
