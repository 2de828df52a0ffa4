"""What is told of secrets: which of them look alike."""
from lookalike.askedruns import run_sights
from lookalike.bare import bare_deed, bare_start, bare_step, words_in
from lookalike.visible import is_take, sight_of
from lookalike.wishes import wished_record


def classes_of(things):
    """The ascending classes of the numbers of things that are the same."""
    found = {}
    for number, thing in enumerate(things):
        found.setdefault(thing, []).append(number)
    return tuple([tuple(numbers) for numbers in found.values()])


def row_record(image, ends, level, row, secret, ticks):
    """What is seen if the words of takes that are seen are those of the row, and of other ones those of the secret."""
    left = list(reversed(row))

    def ask(_):
        return left.pop() if left else 0

    return run_sights(image, ends, level, ask, secret, ticks)


def row_classes(image, ends, level, row, secrets, ticks):
    """The classes of secrets that look alike, if the words of takes that are seen are those of the row."""
    return classes_of([row_record(image, ends, level, row, secret, ticks) for secret in secrets])


def wish_classes(image, ends, level, wish, secrets, ticks):
    """The classes of secrets that look alike, if the words of takes that are seen are told by the wish."""
    return classes_of([wished_record(image, ends, level, wish, secret, ticks) for secret in secrets])


class Side:
    """A run with a secret; it stands at pairs of a bare state and the number of the secret's words that are spent."""

    def __init__(self, image, ends, level, secret):
        self.image = image
        self.ends = ends
        self.level = level
        self.secret = secret

    def sight(self, place):
        """What is seen at a place."""
        return sight_of(self.image, self.ends, self.level, place[0])

    def behind(self, place, word):
        """The place behind one, the word being told if it is taken and seen."""
        bare, spent = place
        if is_take(bare_deed(self.image, bare)) and not is_take(self.sight(place)):
            word = self.secret[spent] if spent < len(self.secret) else 0
            spent = min(spent + 1, len(self.secret))
        return (bare_step(self.image, bare, word), spent)


class Twins:
    """Two runs with a secret each, which look alike as far as they have come."""

    def __init__(self, one, other):
        self.one = one
        self.other = other

    def are_unlike(self, here, there):
        """Whether what is seen at two places is not the same."""
        return self.one.sight(here) != self.other.sight(there)

    def are_same(self, here, there):
        """Whether two places are the same, with the same words of the secrets left."""
        return here[0] == there[0] and self.one.secret[here[1]:] == self.other.secret[there[1]:]

    def further(self, wave, reached):
        """What stands behind pairs of places, where it was not reached before, each with the row that leads there."""
        found = {}
        for (here, there), row in wave.items():
            is_asked = is_take(self.one.sight(here))
            many = max(words_in(self.one.image, here[0]), words_in(self.one.image, there[0])) if is_asked else 1
            for word in range(many):
                pair = (self.one.behind(here, word), self.other.behind(there, word))
                if pair in reached or self.are_same(pair[0], pair[1]):
                    continue
                reached[pair] = True
                found[pair] = (*row, word) if is_asked else row
        return found


def telling_row(image, ends, level, one, other, ticks):
    """None, or a row of numbers below 16 by which two secrets look unlike as soon as by any, within so many ticks."""
    twins = Twins(Side(image, ends, level, one), Side(image, ends, level, other))
    place = (bare_start(image), 0)
    wave = {(place, place): ()}
    reached = {(place, place): True}
    for _ in range(ticks):
        for (here, there), row in wave.items():
            if twins.are_unlike(here, there):
                return row
        if len(wave) == 0:
            return None
        wave = twins.further(wave, reached)
    return None
