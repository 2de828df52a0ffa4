"""What threads read, and what they do by that alone."""
from lookalike.kinds import are_numbers, is_tuple_of
from lookalike.meaning import Play, start_program
from lookalike.tasks import ThreadText
from lookalike.walkers import READS, first_walker


def diaries_of(program, inputs, ticks):
    """For each thread the words that it reads in so many ticks from the start."""
    play = Play(program, start_program(program, inputs))
    diaries = [[] for _ in play.walkers]
    for _ in range(ticks):
        thread = play.turn()
        walker = play.walkers[thread]
        act = None if walker is None else walker.next_act()
        play.step()
        if act is not None and act[0] in READS:
            diaries[thread].append(walker.words[-1])
    return tuple([tuple(words) for words in diaries])


def diary(program, inputs, thread, ticks):
    """The words that a thread reads in so many ticks from the start."""
    return diaries_of(program, inputs, ticks)[thread]


def relive(program, thread, diary, slots):
    """What a thread does in its first slots if it reads these words, up to its end, or ahead of a word that lacks."""
    walker = first_walker(ThreadText(program, thread))
    done = []
    heard = 0
    while len(done) < slots:
        if not walker.todo:
            done.append(("end",))
            break
        act = walker.next_act()
        is_read = act is not None and act[0] in READS
        if is_read and heard == len(diary):
            break
        done.append(walker.step())
        if is_read:
            walker.hear(diary[heard])
            heard += 1
    return tuple(done)


def is_weave(program, inputs, diaries, ticks):
    """Whether any value is the tuple of what the threads read in so many ticks.

    No other one is a weave: up to the first word that is not as in the run, all
    threads do as in it, so what this word is read from holds what it does there.
    """
    if not is_tuple_of(diaries, len(program[4])) or not all(are_numbers(words) for words in diaries):
        return False
    return diaries == diaries_of(program, inputs, ticks)
