"""What a thread has to do, task by task.

A task is a pair (owner, work): the owner is the name of the thread or function
in whose text the work stands, or "" if the work is an act.
"""
from lookalike.parts import has_slots
from lookalike.scopes import program_scopes, text_width


def frame(program, thread):
    """Triples (owner, name, width) for the locals of a thread, its own ones first, then those of all functions."""
    name, places, _ = program[4][thread]
    found = named_places(name, places)
    for function in program[3]:
        found.extend(named_places(function[0], function[1] + function[2]))
    return tuple(found)


def named_places(owner, places):
    """The part of a frame that has these places of an owner."""
    return [(owner, place[0], place[2]) for place in places]


def indexes_of(named):
    """For each name of boxes, rows or functions its index."""
    return {part[0]: index for index, part in enumerate(named)}


class ThreadText:
    """A thread of a right program with all that its text speaks of.

    `widths` are those of its locals by their numbers, `box_widths`,
    `row_widths` and `sizes` those of boxes and rows; `places` has the numbers
    of locals by owner and name.
    """

    def __init__(self, program, thread):
        self.scopes = program_scopes(program)
        places = frame(program, thread)
        self.places = {(owner, name): index for index, (owner, name, _) in enumerate(places)}
        self.widths = [width for _, _, width in places]
        self.boxes = indexes_of(program[1])
        self.box_widths = [box[2] for box in program[1]]
        self.rows = indexes_of(program[2])
        self.row_widths = [row[2] for row in program[2]]
        self.sizes = [row[3] for row in program[2]]
        self.functions = {function[0]: function for function in program[3]}
        self.first = block_tasks(program[4][thread][0], program[4][thread][2])

    def name_act(self, owner, name, of_local, of_box):
        """The act that does with what a name stands for what the first word tells of a local, the other of a box."""
        if (owner, name) in self.places:
            return ("", (of_local, self.places[(owner, name)]))
        return ("", (of_box, self.boxes[name]))


def block_tasks(owner, block):
    """The tasks of the statements of a block."""
    return [(owner, statement) for statement in block]


def unfold(text, todo):
    """Replace the next task of a todo, a list with the next task last, until that takes a slot."""
    while todo and todo[-1][0] != "" and todo[-1][1][0] in FOLDED:
        todo.extend(list(reversed(in_place_of(text, todo.pop()))))


def in_place_of(text, task):
    """The tasks that stand in the place of a task which is a statement or expression."""
    owner, work = task
    action = FOLDED[work[0]]
    return action(text, owner, work)


def unfold_word(_, owner, work):
    return [("", ("push", work[1], work[2]))]


def unfold_name(text, owner, work):
    return [text.name_act(owner, work[1], "local", "box")]


def unfold_at(text, owner, work):
    return [(owner, work[2]), ("", ("cell", text.rows[work[1]]))]


def unfold_op(text, owner, work):
    width = text_width(text.scopes[owner], work[2])
    return [(owner, work[2]), (owner, work[3]), ("", ("op", work[1], width))]


def unfold_call(text, owner, work):
    name, params, places, block, result = text.functions[work[1]]
    tasks = [(owner, arg) for arg in work[2]]
    for place in reversed(params):
        tasks.append(text.name_act(name, place[0], "keep", "fill"))
    for place in places:
        tasks.append(("", ("push", place[2], 0)))
        tasks.append(text.name_act(name, place[0], "keep", "fill"))
    return [*tasks, *block_tasks(name, block), (name, result)]


def unfold_set(text, owner, work):
    return [(owner, work[2]), text.name_act(owner, work[1], "keep", "fill")]


def unfold_put(text, owner, work):
    return [(owner, work[2]), (owner, work[3]), ("", ("cells", text.rows[work[1]]))]


def unfold_if(_, owner, work):
    return [(owner, work[1]), (owner, ("choose", work[2], work[3]))]


def unfold_while(_, owner, work):
    return [(owner, work[1]), (owner, ("test", work[1], work[2]))]


def unfold_times(_, owner, work):
    # Rounds without slots are left out at once: there may be very many of them, within one another.
    if work[1] == 0 or not has_slots(work[2]):
        return []
    return [*block_tasks(owner, work[2]), (owner, ("times", work[1] - 1, work[2]))]


def unfold_out(_, owner, work):
    return [(owner, work[2]), ("", ("out", work[1]))]


def unfold_take(text, owner, work):
    width = text.scopes[owner].places[work[1]]
    return [("", ("take", work[2], width)), text.name_act(owner, work[1], "keep", "fill")]


def unfold_skip(_, owner, work):
    return [("", ("rest",))] * work[1]


FOLDED = {
    "word": unfold_word,
    "name": unfold_name,
    "at": unfold_at,
    "op": unfold_op,
    "call": unfold_call,
    "set": unfold_set,
    "put": unfold_put,
    "if": unfold_if,
    "while": unfold_while,
    "times": unfold_times,
    "out": unfold_out,
    "take": unfold_take,
    "skip": unfold_skip,
}


def chosen_tasks(task, word):
    """What a choice or test, which takes this word, or an "again" puts ahead."""
    owner, work = task
    if work[0] == "choose":
        side = work[1] if word != 0 else work[2]
        return [*block_tasks(owner, side), ("", ("rest",))]
    if work[0] == "again":
        return [(owner, ("while", work[1], work[2]))]
    if word == 0:
        return []
    return [*block_tasks(owner, work[2]), (owner, ("again", work[1], work[2]))]
