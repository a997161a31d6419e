"""The tokens of sources (point 9)."""

from linkwork.errors import BadText
from linkwork.names import is_digit, is_letter

MOST_LETTERS = 20
MOST_DIGITS = 15

KEYWORDS = (
    "and", "connect", "connector", "der", "discrete", "else", "end", "equation", "extends", "false",
    "flow", "for", "if", "in", "initial", "input", "loop", "model", "not", "or", "parameter", "pre",
    "reset", "sample", "size", "sum", "then", "time", "true", "when",
)
LONG_SYMBOLS = ("==", "<=", ">=", "<>")
SYMBOLS = "()[]{},;.=<>+-*/:"


def tokens(source):
    """Returns the list of tuples (kind, text, at) of the tokens; raises BadText."""
    found, stop = tokens_until(source)
    if stop < len(source):
        raise BadText(stop)
    return found


def tokens_until(source):
    """Returns the tokens before the first character that begins none, and its index.

    The index is the length of the source if there is no such character.
    """
    found = []
    at = _next_start(source, 0)
    while at < len(source):
        end = _end_of_token(source, at)
        if end == at:
            return (found, at)
        text = source[at:end]
        found.append((_kind(text), text, at))
        at = _next_start(source, end)
    return (found, len(source))


def _next_start(source, at):
    """Returns the index of the first character from `at` on that is in no gap."""
    while at < len(source):
        if source.startswith("//", at):
            end = source.find("\n", at)
            at = len(source) if end < 0 else end
        elif source[at] in " \n":
            at += 1
        else:
            return at
    return at


def _end_of_token(source, at):
    """Returns the index behind the token that begins at `at`, or `at` if none does."""
    if is_letter(source[at]):
        end = _end_of_word(source, at)
        return end if end - at <= MOST_LETTERS else at
    if is_digit(source[at]):
        return _end_of_number(source, at)
    if source[at:at + 2] in LONG_SYMBOLS:
        return at + 2
    return at + 1 if source[at] in SYMBOLS else at


def _end_of_word(source, at):
    end = at
    while end < len(source) and (is_letter(source[end]) or is_digit(source[end]) or source[end] == "_"):
        end += 1
    return end


def _end_of_number(source, at):
    point = _end_of_digits(source, at)
    end = _end_of_digits(source, point + 1) if source.startswith(".", point) else point
    if end <= point + 1:
        end = point
    if point - at > MOST_DIGITS or end - point - 1 > MOST_DIGITS:
        return at
    return end


def _end_of_digits(source, at):
    end = at
    while end < len(source) and is_digit(source[end]):
        end += 1
    return end


def _kind(text):
    if is_letter(text[0]):
        return "key" if text in KEYWORDS else "word"
    return "number" if is_digit(text[0]) else "symbol"
