"""What is seen by who chooses each word by what was seen till then."""
from lookalike.askedruns import run_sights
from lookalike.visible import machine_sights


def asked_wish(wish):
    """What tells the word that a wish tells, by the list of the pairs so far."""
    def ask(told):
        return wish(tuple(told))

    return ask


def wished_record(image, ends, level, wish, words, ticks):
    """The pairs of tick and sight that a level sees, its words told by the wish, those of other takes by these."""
    return run_sights(image, ends, level, asked_wish(wish), words, ticks)


def wished_machine_record(value, wish, ticks):
    """The pairs of tick and sight that a visible machine tells, its words told by the wish."""
    return machine_sights(value, asked_wish(wish), ticks)
