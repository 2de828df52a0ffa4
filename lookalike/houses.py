"""Houses: what is made of a text, on its way tick by tick."""
from lookalike.errors import InvalidQuestion
from lookalike.kinds import is_number
from lookalike.machine import Machine
from lookalike.making import made
from lookalike.orders import is_level
from lookalike.papers import end_lots
from lookalike.records import seen
from lookalike.states import start_state

MOST_TICKS = 10000


class Story:
    """All that has happened in a house.

    A deed that can be undone is told by what was ahead of it: the level to
    which a word was given, None for ticks; the state but for its streams; how
    many words of each stream were spent; and how long the record was.
    """

    def __init__(self, stand, given, spent, record, deeds):
        # Tick, boxes, rows and threads.
        self.stand = stand
        self.given = given
        self.spent = spent
        self.record_so_far = record
        self.deeds = deeds

    def copied(self):
        """Another story, in which the same has happened."""
        given = [list(words) for words in self.given]
        return Story(self.stand, given, self.spent, list(self.record_so_far), list(self.deeds))

    def note(self, level):
        """Remember what is ahead of a deed."""
        self.deeds.append((level, self.stand, self.spent, len(self.record_so_far)))

    def take_back(self):
        """Undo the last deed."""
        level, self.stand, self.spent, many = self.deeds.pop()
        if level is not None:
            self.given[level].pop()
        del self.record_so_far[many:]

    def pass_ticks(self, image, many):
        """Let so many ticks pass."""
        now, boxes, rows, threads = self.stand
        left = [words[spent:] for words, spent in zip(self.given, self.spent)]
        machine = Machine(image, (now, boxes, rows, left, threads))
        self.record_so_far.extend(list(machine.advance(many)))
        machine.now = now + many
        now, boxes, rows, streams, threads = machine.state()
        self.stand = (now, boxes, rows, threads)
        self.spent = tuple([len(words) - len(stream) for words, stream in zip(self.given, streams)])


def new_story(image):
    """The story of a house at the start."""
    now, boxes, rows, _, threads = start_state(image, ())
    levels = len(image[0])
    return Story((now, boxes, rows, threads), [[] for _ in range(levels)], (0,) * levels, [], [])


class House:
    """What is made of a text that is let by, with the words that were given and the ticks that have passed."""

    def __init__(self, text):
        self.program, self.image, self.paper = made(text)
        self.story = new_story(self.image)

    def __len__(self):
        return len(self.story.deeds)

    def inputs(self):
        """What was given."""
        return tuple([tuple(words) for words in self.story.given])

    def ticks(self):
        """How many ticks have passed."""
        return self.story.stand[0]

    def record(self):
        """The record of all ticks so far."""
        return tuple(self.story.record_so_far)

    def see(self, level):
        """What the level sees of the record."""
        if not is_level(len(self.image[0]), level):
            raise InvalidQuestion(0)
        return seen(self.image[0], level, end_lots(self.paper), self.record())

    def give(self, level, word):
        """Put a number behind the stream of a level."""
        if not is_level(len(self.image[0]), level):
            raise InvalidQuestion(0)
        if not is_number(word):
            raise InvalidQuestion(1)
        self.story.note(level)
        self.story.given[level].append(word)

    def tick(self, many):
        """Let so many ticks pass."""
        if not is_number(many) or many > MOST_TICKS:
            raise InvalidQuestion(0)
        self.story.note(None)
        self.story.pass_ticks(self.image, many)

    def undo(self):
        """Undo the last deed; tell whether there was one."""
        if len(self.story.deeds) == 0:
            return False
        self.story.take_back()
        return True

    def within(self, work):
        """What the work returns that is done with this house; what it does here is undone."""
        story = self.story
        self.story = story.copied()
        try:
            return work(self)
        finally:
            self.story = story
