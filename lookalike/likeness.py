"""Likenesses: what is left to do of a program at each row of an image."""
from lookalike.compiling import shared_parts
from lookalike.tasks import ThreadText, chosen_tasks, unfold

REST = ("", ("rest",))


def likeness(program, image):
    """The likeness of a program and an image, None if there is none."""
    if image[:3] != shared_parts(program) or len(image[3]) != len(program[4]):
        return None
    value = []
    for thread, (widths, code) in enumerate(image[3]):
        text = ThreadText(program, thread)
        todos = row_todos(text, code) if widths == tuple(text.widths) else None
        if todos is None:
            return None
        value.append(todos)
    return tuple(value)


def unfolded(text, tasks):
    """The todo with these tasks, unfolded."""
    todo = list(reversed(tasks))
    unfold(text, todo)
    return tuple(reversed(todo))


def row_todos(text, code):
    """For each row of a code what is left to do there, None if nothing leads there; None if it does other things."""
    todos = [None for _ in code]
    todos[0] = unfolded(text, text.first)
    waiting = [0]
    while waiting:
        row = waiting.pop()
        nexts = next_todos(text, code, row, todos[row])
        if nexts is None:
            return None
        for target, tasks in nexts:
            todo = unfolded(text, tasks)
            if todos[target] is None:
                todos[target] = todo
                waiting.append(target)
            elif todos[target] != todo:
                return None
    return tuple(todos)


def next_todos(text, code, row, todo):
    """Pairs of a row that comes next and what is left there; None if the row does not do what its todo begins with."""
    instruction = code[row]
    if len(todo) == 0:
        return [] if instruction[0] == "end" else None
    task, behind = todo[0], todo[1:]
    owner, work = task
    if owner != "" and work[0] != "again":
        if instruction[0] != "else":
            return None
        return [(row + 1, [*chosen_tasks(task, 1), *behind]), (instruction[1], [*chosen_tasks(task, 0), *behind])]
    if owner == "" and task != REST:
        return [(row + 1, behind)] if instruction == work else None
    if instruction[0] not in ("rest", "jump"):
        return None
    target = row + 1 if instruction[0] == "rest" else instruction[1]
    return [(target, behind if task == REST else [*chosen_tasks(task, 0), *behind])]


def source_state(value, state):
    """The state of the program with the todos of the rows in a state of the image."""
    threads = []
    for todos, parts in zip(value, state[4]):
        threads.append(None if parts is None else (todos[parts[0]], *parts[1:]))
    return (*state[:4], tuple(threads))


def machine_states(value, state):
    """The ascending tuple of the states of the image whose source state is this one."""
    choices = [row_parts(todos, parts) for todos, parts in zip(value, state[4])]
    if [] in choices:
        return ()
    found = [()]
    for parts in choices:
        found = [(*threads, part) for threads in found for part in parts]
    return tuple([(*state[:4], threads) for threads in found])


def row_parts(todos, parts):
    """What states of the image may tell of a thread of which the program's state tells this."""
    if parts is None:
        return [None]
    return [(row, *parts[1:]) for row, todo in enumerate(todos) if todo is not None and todo == parts[0]]
