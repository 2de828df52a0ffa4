"""Spans: the fewest and the most slots that ways through programs take."""
from lookalike.measures import measured


class SpanMeasure:
    """Measures parts by their spans: pairs of the fewest and the most slots, None if there is no most."""

    def slots(self, many):
        return (many, many)

    def rests(self, many):
        return (many, many)

    def together(self, parts):
        least = sum([part[0] for part in parts])
        mosts = [part[1] for part in parts]
        return (least, None if None in mosts else sum(mosts))

    def either(self, one, other):
        most = None if None in (one[1], other[1]) else max(one[1], other[1])
        return (min(one[0], other[0]), most)

    def rounds(self, ahead, _):
        return (ahead[0], None)

    def repeated(self, many, part):
        # No way goes through a block in no rounds, so it does not matter there that a most may lack.
        if many == 0:
            return (0, 0)
        return (many * part[0], None if part[1] is None else many * part[1])


def expression_span(program, expression):
    """The span of an expression."""
    return measured(SpanMeasure(), program).expressions([expression])


def block_span(program, block):
    """The span of a block."""
    return measured(SpanMeasure(), program).block(block)


def told_time(program, block):
    """The number of slots that all ways through a block take, None if they do not take as many."""
    return span_time(block_span(program, block))


def span_time(span):
    """The number of slots that is the fewest and the most of a span, None if there is none."""
    return span[0] if span[0] == span[1] else None


def thread_spans(program):
    """For each thread the span of the slots until its end is over."""
    found = measured(SpanMeasure(), program)
    last = found.measure.slots(1)
    return tuple([found.measure.together([found.block(thread[2]), last]) for thread in program[4]])
