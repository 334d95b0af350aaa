"""The signs that the text of a query consists of."""

from fieldquery.schemas import CAPITALS, SMALL_LETTERS

BLANKS = " \n"
DIGITS = "0123456789"
BRACKETS_AND_COLON = "{}():"
DOTS = "..."
WORD = "word"
TYPE_NAME = "name of a type"
NUMBER = "number"
END = "end of the text"
NO_SIGN = "no sign"
LONGEST_WORD = 10
LONGEST_TYPE_NAME = 8
LONGEST_NUMBER = 2


def signs_of(text):
    """The signs of a text, in order: triples (kind, characters, offset).

    The last one tells where they end: at the end of the text, or at the first place where no sign begins.
    """
    signs = []
    at = _run_end(text, 0, BLANKS)
    while at < len(text):
        kind, end = _sign_at(text, at)
        signs.append((kind, text[at:end], at))
        if kind == NO_SIGN:
            return signs
        at = _run_end(text, end, BLANKS)
    signs.append((END, "", len(text)))
    return signs


def _sign_at(text, at):
    """The kind of the sign that begins here, and where it ends."""
    first = text[at]
    if first in BRACKETS_AND_COLON:
        return first, at + 1
    if text.startswith(DOTS, at):
        return DOTS, at + len(DOTS)
    if first in SMALL_LETTERS:
        return _run_at(text, at, WORD, SMALL_LETTERS + DIGITS, LONGEST_WORD)
    if first in CAPITALS:
        return _run_at(text, at, TYPE_NAME, CAPITALS + SMALL_LETTERS, LONGEST_TYPE_NAME)
    if first in DIGITS:
        # No digit may follow a 0, so that each number is written in one way only.
        longest = 1 if first == "0" else LONGEST_NUMBER
        return _run_at(text, at, NUMBER, DIGITS, longest)
    return NO_SIGN, at


def _run_at(text, at, kind, characters, longest):
    # A run that is too long is not cut: no sign begins where it begins.
    end = _run_end(text, at, characters)
    return (kind, end) if end - at <= longest else (NO_SIGN, end)


def _run_end(text, at, characters):
    end = at
    while end < len(text) and text[end] in characters:
        end += 1
    return end
