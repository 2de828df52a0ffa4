"""Least machines: blocks that nothing tells apart are put together."""
from lookalike.visible import WORDS


class Refiner:
    """Classes of the rows of a machine, parted as long as some words lead from one class to several."""

    def __init__(self, rows):
        self.classes = list(in_order([sight for sight, _ in rows]))
        # For each class its rows, as keys.
        self.members = [{} for _ in range(max(self.classes) + 1)]
        # For each word, by rows, the rows from which it leads there.
        self.comers = [{} for _ in range(WORDS)]
        for number, (_, nexts) in enumerate(rows):
            self.members[self.classes[number]][number] = True
            for word, target in enumerate(nexts):
                self.comers[word].setdefault(target, []).append(number)
        # The classes by which others may still have to be parted.
        self.waiting = list(range(len(self.members)))
        self.is_waiting = [True for _ in self.members]

    def refine(self):
        """Part classes until words lead from each class to one."""
        while self.waiting:
            number = self.waiting.pop()
            self.is_waiting[number] = False
            rows = list(self.members[number])
            for comers in self.comers:
                self.part_by(comers, rows)

    def part_by(self, comers, rows):
        """Part all classes by whether a word leads from their rows to one of these."""
        parts = {}
        for row in rows:
            for comer in comers.get(row, []):
                parts.setdefault(self.classes[comer], []).append(comer)
        for number, part in parts.items():
            if len(part) < len(self.members[number]):
                self.part(number, part)

    def part(self, number, part):
        """Make a class of its own of a part of one.

        By which of the two others are parted then does not matter, if they were
        parted by both together: so the smaller one is taken.
        """
        new = len(self.members)
        self.members.append({})
        self.is_waiting.append(False)
        for row in part:
            del self.members[number][row]
            self.members[new][row] = True
            self.classes[row] = new
        is_new_smaller = len(part) <= len(self.members[number])
        self.wake(new if is_new_smaller or self.is_waiting[number] else number)

    def wake(self, number):
        """Let others be parted by a class."""
        self.is_waiting[number] = True
        self.waiting.append(number)


def in_order(names):
    """Numbers in the place of names, ascending as the names first stand."""
    numbers = {}
    found = []
    for name in names:
        if name not in numbers:
            numbers[name] = len(numbers)
        found.append(numbers[name])
    return tuple(found)


def reduced(value):
    """The least machine of a visible one."""
    blocks, rows = value
    refiner = Refiner(rows)
    refiner.refine()
    classes = [refiner.classes[block] for block in blocks]
    new_blocks = in_order(classes)
    numbers = {name: block for name, block in zip(classes, new_blocks)}
    new_rows = {}
    for number, (sight, nexts) in enumerate(rows):
        new_nexts = tuple([numbers[refiner.classes[target]] for target in nexts])
        new_rows[numbers[refiner.classes[number]]] = (sight, new_nexts)
    return (new_blocks, tuple([new_rows[block] for block in range(len(new_rows))]))
