"""Looking for two runs that part: all pairs of bare states to which alike runs come at one tick.

States that belong together are put into one class. A pair within a class is
not gone on from: whatever it leads to is told by the pairs that made the class.
So there are less such pairs than states, and what is found is short.
"""
from lookalike.refining import in_order
from lookalike.visible import WORDS, is_take, sight_of


class Search:
    """How far the bare states of an image are put together, as a level sees them."""

    def __init__(self, explored, ends, level):
        self.nexts = explored.nexts
        self.comings = explored.comings
        self.sights = [sight_of(explored.image, ends, level, bare) for bare in explored.states]
        # For each state one of its class that stands nearer to the one that stands for all.
        self.leads = list(range(len(self.sights)))
        # Pairs of states, the words that led to them, and the index of the pair from where they did, or None.
        self.pairs = []

    def leader(self, number):
        """The state that stands for all in the class of this one."""
        leads = self.leads
        while leads[number] != number:
            leads[number] = leads[leads[number]]
            number = leads[number]
        return number

    def parting(self):
        """None, or the pair of tuples of words by which two runs part."""
        for number in range(len(self.sights)):
            self.go_on(number, number, None)
        at = 0
        while at < len(self.pairs):
            one, other, _, _ = self.pairs[at]
            if self.sights[one] != self.sights[other]:
                return self.words_to(at)
            if self.leader(one) != self.leader(other):
                self.leads[self.leader(one)] = self.leader(other)
                self.go_on(one, other, at)
            at += 1
        return None

    def go_on(self, one, other, at):
        """Add the pairs behind two states of one sight, which are told by the pair with this index.

        Each state is such a pair with itself: if the words are not seen, all
        states behind it are put together by that, so of two states one word
        each is enough.
        """
        here, there = self.nexts[one], self.nexts[other]
        if is_take(self.sights[one]):
            words = [(word, word) for word in range(max(len(here), len(there)))]
        elif one == other:
            words = [(0, word) for word in range(1, len(there))]
        else:
            words = [(0, 0)]
        for left, right in words:
            behind = (here[left % len(here)], there[right % len(there)])
            if behind[0] != behind[1]:
                self.pairs.append((*behind, (left, right), (one if at is None else None, at)))

    def words_to(self, at):
        """The words that lead two runs to the pair with this index."""
        steps = []
        start = None
        while at is not None:
            _, _, words, (start, at) = self.pairs[at]
            steps.append(words)
        while start > 0:
            start, word = self.comings[start]
            steps.append((word, word))
        steps = list(reversed(steps))
        return (tuple([one for one, _ in steps]), tuple([other for _, other in steps]))

    def machine(self):
        """A visible machine, if no two runs part: its blocks are the classes."""
        blocks = in_order([self.leader(number) for number in range(len(self.sights))])
        rows = {}
        for number, block in enumerate(blocks):
            if block not in rows:
                rows[block] = (self.sights[number], self.blocks_behind(blocks, number))
        return (blocks, tuple([rows[block] for block in range(len(rows))]))

    def blocks_behind(self, blocks, number):
        """The blocks behind a state, by the words that are told apart there."""
        nexts = self.nexts[number]
        many = WORDS if is_take(self.sights[number]) else 1
        return tuple([blocks[nexts[word % len(nexts)]] for word in range(many)])
