"""The moments of a thread, told by its choices."""
from lookalike.meaning import Play, start_program
from lookalike.tasks import ThreadText, chosen_tasks, unfold


def choices_made(program, inputs, thread, ticks):
    """How the choices and tests of a thread turn out in so many ticks from the start: 1, or 0 if the word is 0."""
    play = Play(program, start_program(program, inputs))
    choices = []
    for _ in range(ticks):
        walker = play.walkers[thread]
        if walker is None:
            break
        choice = walker.next_choice() if play.turn() == thread else None
        if choice is not None:
            choices.append(choice)
        play.step()
    return tuple(choices)


def acts_of(program, thread, choices):
    """What a thread does slot by slot if its choices and tests turn out so, up to the first that is not told."""
    text = ThreadText(program, thread)
    todo = list(reversed(text.first))
    done = []
    told = 0
    unfold(text, todo)
    while todo:
        task = todo.pop()
        owner, work = task
        if owner == "":
            done.append(work)
        else:
            done.append((work[0],))
            choice = 0
            if work[0] != "again":
                if told == len(choices):
                    return tuple(done)
                choice = choices[told]
                told += 1
            todo.extend(list(reversed(chosen_tasks(task, choice))))
        unfold(text, todo)
    return (*done, ("end",))
