"""A thread on its way through its tasks."""
from lookalike.tasks import chosen_tasks, unfold
from lookalike.words import word_op, wrapped

READS = ("box", "cell", "take")


class Walker:
    """A thread that has not ended: what it has to do, the next task last, its stack, and its locals."""

    def __init__(self, text, todo, words, held):
        self.text = text
        self.todo = todo
        self.words = words
        self.held = held
        unfold(text, todo)

    def parts(self):
        """What a state tells of it."""
        return (tuple(reversed(self.todo)), tuple(self.words), tuple(self.held))

    def next_act(self):
        """The act that is next, None if something else is, or nothing."""
        if self.todo and self.todo[-1][0] == "":
            return self.todo[-1][1]
        return None

    def next_choice(self):
        """None unless a choice or test is next, otherwise whether its word is not 0, as 1 or 0."""
        if not self.todo or self.todo[-1][1][0] not in ("choose", "test"):
            return None
        return int(self.words[-1] != 0)

    def step(self):
        """Do what is next; tell what it does with boxes, rows, streams and outs, None if nothing.

        Whoever calls this answers what was read by `hear`.
        """
        task = self.todo.pop()
        deed = None
        if task[0] == "":
            deed = self.do_act(task[1])
        else:
            word = 0 if task[1][0] == "again" else self.words.pop()
            self.todo.extend(list(reversed(chosen_tasks(task, word))))
        unfold(self.text, self.todo)
        return deed

    def hear(self, word):
        """Put on the stack what was read."""
        self.words.append(word)

    def do_act(self, act):
        """Do an act, as far as the thread alone can do it, and tell what it does beside that."""
        word = act[0]
        if word == "push":
            self.words.append(act[2])
        elif word == "local":
            self.words.append(self.held[act[1]])
        elif word == "keep":
            self.held[act[1]] = wrapped(self.words.pop(), self.text.widths[act[1]])
        elif word == "op":
            other = wrapped(self.words.pop(), act[2])
            one = wrapped(self.words.pop(), act[2])
            self.words.append(word_op(act[1], act[2], one, other))
        elif word != "rest":
            return self.reach(act)
        return None

    def reach(self, act):
        """What an act does with boxes, rows, streams and outs."""
        word, number = act[0], act[1]
        if word == "cell":
            return ("cell", number, self.words.pop() % self.text.sizes[number])
        if word == "fill":
            return ("fill", number, wrapped(self.words.pop(), self.text.box_widths[number]))
        if word == "cells":
            held = wrapped(self.words.pop(), self.text.row_widths[number])
            return ("cells", number, self.words.pop() % self.text.sizes[number], held)
        if word == "out":
            return ("out", number, self.words.pop())
        return (word, number)


def first_walker(text):
    """A thread at its start."""
    return Walker(text, list(reversed(text.first)), [], [0 for _ in text.widths])
