"""Just one of both: all that a level can ever see, or two runs that part."""
from lookalike.bare import Explored, bare_start, bare_step
from lookalike.errors import InvalidQuestion
from lookalike.kinds import are_numbers, is_tuple_of
from lookalike.partings import Search
from lookalike.refining import reduced
from lookalike.visible import is_take, is_visible_machine, sight_of


def is_parting(image, ends, level, value):
    """Whether any value is a pair of the words by which two runs part."""
    if not is_tuple_of(value, 2) or not all(are_numbers(words) for words in value):
        return False
    if len(value[0]) != len(value[1]):
        return False
    one, other = bare_start(image), bare_start(image)
    for word, other_word in zip(value[0], value[1]):
        sight = sight_of(image, ends, level, one)
        if sight != sight_of(image, ends, level, other) or (is_take(sight) and word != other_word):
            return False
        one, other = bare_step(image, one, word), bare_step(image, other, other_word)
    return sight_of(image, ends, level, one) != sight_of(image, ends, level, other)


def watched(image, ends, level, most):
    """A pair of "sees" and the least visible machine, or of "parts" and a parting."""
    search = Search(Explored(image, most), ends, level)
    parting = search.parting()
    if parting is not None:
        return ("parts", parting)
    return ("sees", reduced(search.machine()))


def least_machine(image, ends, level, value):
    """The least machine of any value, a visible machine."""
    if not is_visible_machine(image, ends, level, value):
        raise InvalidQuestion(3)
    return reduced(value)
