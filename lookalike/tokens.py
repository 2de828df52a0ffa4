"""The tokens of texts."""
from lookalike.kinds import DIGITS, NAME_SIGNS

MOST_DIGITS = 1000


def tokens_of(text):
    """The tokens of a text, in order."""
    return tuple([text[start:end] for start, end in token_spans(text)])


def token_places(text):
    """For each token of a text the index of its first sign."""
    return tuple([start for start, _ in token_spans(text)])


def token_spans(text):
    """For each token of a text the index of its first sign, and the one behind its last sign."""
    spans = []
    at = 0
    while at < len(text):
        if text[at] == "#":
            at = line_end(text, at)
        elif text[at] in " \n":
            at += 1
        else:
            end = token_end(text, at)
            spans.append((at, end))
            at = end
    return spans


def line_end(text, at):
    """The index of the end of the line with this sign."""
    end = text.find("\n", at)
    return len(text) if end < 0 else end


def token_end(text, at):
    """The index behind the token that begins with this sign."""
    if text[at:at + 2] == "->":
        return at + 2
    end = at
    while end < len(text) and text[end] in NAME_SIGNS:
        end += 1
    return max(end, at + 1)


def numeral_value(token):
    """The number whose numeral a token is, None if it is none."""
    if len(token) > MOST_DIGITS or any(sign not in DIGITS for sign in token):
        return None
    if token[0] == "0" and token != "0":
        return None
    return int(token)
