"""What reads a program's text token by token.

No token is taken with which no right program goes on: so the first one that is
refused is the first wrong one. Behind the last token a reader that is
*filling* takes, wherever a token is wanted, one that is told there, such that
the text comes to its end soon.

Blocks and expressions may stand deep within one another, so they are read by
*goals*: what is still to be read, the next one last, each a tuple that begins
with a word. What is read of them is gathered in open lists, the innermost one
last.
"""
from lookalike.errors import InvalidText
from lookalike.scopes import Scope
from lookalike.tokens import numeral_value
from lookalike.words import WIDTHS


class Reader:
    """How far a text is read, and what is known from there on."""

    def __init__(self, tokens, filling):
        self.tokens = tokens
        self.filling = filling
        self.at = 0
        self.goals = []
        self.made = []
        # The names of boxes, rows, functions and threads.
        self.taken = {}
        # What names stand for everywhere, and in the function or thread that is being read.
        self.shared = Scope((), {}, {}, {})
        self.scope = self.shared
        # The width of the expression that was read last.
        self.width = 0

    def refuse(self):
        """Tell that the token at which the reader stands is the first wrong one."""
        raise InvalidText(self.at)

    def step(self):
        """Take the next token."""
        self.at += 1

    def is_behind(self):
        """Whether all tokens of the text are taken."""
        return self.at >= len(self.tokens)

    def is_next(self, token):
        """Whether this is the next token of the text."""
        return not self.is_behind() and self.tokens[self.at] == token

    def goes_on_with(self, token):
        """Whether this is the next token of the text; it is taken then."""
        if not self.is_next(token):
            return False
        self.step()
        return True

    def look(self, filler):
        """The next token: behind the text this one, if the reader is filling."""
        if not self.is_behind():
            return self.tokens[self.at]
        if not self.filling:
            self.refuse()
        return filler

    def take_sign(self, sign):
        """Take this token."""
        if self.look(sign) != sign:
            self.refuse()
        self.step()

    def take_number(self, least, most):
        """Take and tell a number from the least one to the most, None if there is no most."""
        number = numeral_value(self.look(str(least)))
        if number is None or number < least or (most is not None and number > most):
            self.refuse()
        self.step()
        return number

    def take_width(self, need, number):
        """Take and tell a width with this word: the needed one, unless that is None."""
        fitting = [width for width in WIDTHS if number < (1 << width) and need in (None, width)]
        width = numeral_value(self.look(str(fitting[0])))
        if width not in fitting:
            self.refuse()
        self.step()
        return width

    def add_goals(self, goals):
        """Have these goals ahead of all others, the first one first."""
        self.goals.extend(list(reversed(goals)))

    def begin(self, parts):
        """Begin to gather a tuple, with these parts so far."""
        self.made.append(list(parts))

    def gather(self, part):
        """Put this to the tuple that was begun last."""
        self.made[-1].append(part)

    def close(self):
        """Put the tuple that was begun last to the one that was begun ahead of it."""
        parts = self.made.pop()
        self.gather(tuple(parts))
