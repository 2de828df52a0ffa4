"""States that fit a paper, and which of them are alike for a level."""
from lookalike.orders import lot_within


def fits_entries(entries, parts):
    """Whether a thread, None if it has ended, stands at a row with an entry, with as many words as this tells."""
    if parts is None:
        return True
    entry = entries[parts[0]]
    return entry is not None and len(entry[0]) == len(parts[1])


def fits_paper(image, paper, state):
    """Whether each thread that has not ended stands at a row with an entry, with as many words as this tells."""
    return all(fits_entries(part[0], parts) for part, parts in zip(paper, state[4]))


def hidden_region(image, paper, level, thread, row):
    """The number of the outermost region around a row with a lot not within the level, None if there is none."""
    entries, regions, _ = paper[thread]
    number = entries[row][3]
    hidden = None
    while number is not None:
        if not lot_within(image[0], regions[number][2], level):
            hidden = number
        number = regions[number][4]
    return hidden


def slots_left(paper, thread, row, region):
    """How many slots are left at a row of a region around it."""
    entries, regions, _ = paper[thread]
    number, left = entries[row][3:]
    while number != region:
        left = left + regions[number][5]
        number = regions[number][4]
    return left


class View:
    """What a level may see of states, as a paper tells it."""

    def __init__(self, image, paper, level):
        self.image = image
        self.paper = paper
        self.level = level
        # What is told of rows by pairs of thread and row, as far as it was asked for.
        self.known = {}

    def is_seen(self, lot):
        """Whether a lot is within the level."""
        return lot_within(self.image[0], lot, self.level)

    def are_seen(self, lots):
        """For each of these lots whether it is within the level."""
        return [self.is_seen(lot) for lot in lots]

    def standing(self, thread, row):
        """What is told of a row with an entry.

        Whether its clock is seen, the hidden region, what is left of it, and
        which words on the stack and which locals are seen.
        """
        if (thread, row) not in self.known:
            entry = self.paper[thread][0][row]
            hidden = hidden_region(self.image, self.paper, self.level, thread, row)
            left = 0 if hidden is None else slots_left(self.paper, thread, row, hidden)
            self.known[(thread, row)] = (
                self.is_seen(entry[2]), hidden, left, self.are_seen(entry[0]), self.are_seen(entry[1]),
            )
        return self.known[(thread, row)]

    def is_thread_alike(self, thread, one, other):
        """Whether a thread is alike in two states that fit, which tell these parts of it."""
        if one is None and other is None:
            return True
        if one is None or other is None:
            row = other[0] if one is None else one[0]
            return not self.standing(thread, row)[0]
        here = self.standing(thread, one[0])
        there = self.standing(thread, other[0])
        if not here[0] or not there[0]:
            return here[0] == there[0]
        # Both are in one hidden region, with as much of it left, or in none, and then in one row.
        if here[1:3] != there[1:3] or (here[1] is None and one[0] != other[0]):
            return False
        if not are_same_words(one[1], other[1], here[3], there[3]):
            return False
        return are_same_words(one[2], other[2], here[4], there[4])

    def unlike_between(self, one, other):
        """None, or the first part that is not alike in two states that fit."""
        order, boxes, rows, threads = self.image
        if one[0] != other[0]:
            return ("tick",)
        for number, box in enumerate(boxes):
            if self.is_seen(box[0]) and one[1][number] != other[1][number]:
                return ("box", number)
        for number, row in enumerate(rows):
            if self.is_seen(row[0]) and one[2][number] != other[2][number]:
                return ("row", number)
        for level in order[self.level]:
            if one[3][level] != other[3][level]:
                return ("stream", level)
        for thread in range(len(threads)):
            if not self.is_thread_alike(thread, one[4][thread], other[4][thread]):
                return ("thread", thread)
        return None


def are_same_words(one, other, seen_here, seen_there):
    """Whether words that are seen in both places, counted from the first ones on, are the same."""
    for word, other_word, here, there in zip(one, other, seen_here, seen_there):
        if here and there and word != other_word:
            return False
    return True


def alike_states(image, paper, level, one, other):
    """Whether two states that fit are alike for a level."""
    return unlike_part(image, paper, level, one, other) is None


def unlike_part(image, paper, level, one, other):
    """None, or the first part in which two states that fit are not alike for a level."""
    return View(image, paper, level).unlike_between(one, other)
