"""Desks: houses that do as they are told in words."""
from lookalike.errors import InvalidCommand
from lookalike.houses import House
from lookalike.tokens import numeral_value

MOST_DIGITS = 5
# How many numbers stand behind the first word of each command.
COUNTS = {"give": 2, "tick": 1, "see": 1, "ticks": 0, "rows": 0, "undo": 0}


def do_give(house, numbers):
    house.give(numbers[0], numbers[1])
    return "ok"


def do_tick(house, numbers):
    house.tick(numbers[0])
    return "ok"


def do_see(house, numbers):
    told = [pair_text(tick, deed) for tick, deed in house.see(numbers[0])]
    return "; ".join(told) if told else "nothing"


def do_ticks(house, _):
    return str(house.ticks())


def do_rows(house, _):
    return str(sum([len(code) for _, code in house.image[3]]))


def do_undo(house, _):
    return "ok" if house.undo() else "nothing"


ACTIONS = {"give": do_give, "tick": do_tick, "see": do_see, "ticks": do_ticks, "rows": do_rows, "undo": do_undo}


def pair_text(tick, deed):
    """How a pair of a record is told."""
    if deed[0] == "end":
        return f"{tick}:end {deed[1]}"
    return f"{tick}:{deed[1]}={deed[2]}"


def command_number(word):
    """The number that a word of a command tells, None if it tells none."""
    return numeral_value(word) if 0 < len(word) <= MOST_DIGITS else None


def command_parts(command):
    """The first word of any value, a command, and the numbers behind it."""
    if not isinstance(command, str):
        raise InvalidCommand()
    word, *rest = command.split(" ")
    numbers = [command_number(part) for part in rest]
    if word not in COUNTS or len(numbers) != COUNTS[word] or None in numbers:
        raise InvalidCommand()
    return (word, numbers)


class Desk:
    """A house, None at first, that does as it is told."""

    def __init__(self):
        self.house = None

    def load(self, text):
        """Begin with a new house."""
        self.house = House(text)
        return "ok"

    def say(self, command):
        """Do a command, and tell what comes of it."""
        word, numbers = command_parts(command)
        if self.house is None:
            raise InvalidCommand()
        action = ACTIONS[word]
        return action(self.house, numbers)
