"""A place in the tokens of a source, which moves as they are read (point 13)."""

from linkwork.errors import BadText, TooLarge
from linkwork.tokens import tokens_until
from linkwork.trees import is_within_bounds


class Cursor:
    """The tokens of a source up to the first character that begins none, and the next of them.

    The mark of a token is what the grammar asks for: "word" or "number", or the
    text of a keyword or a symbol; behind the last token it is "".
    """

    def __init__(self, source):
        self.tokens, self.stop = tokens_until(source)
        self.is_whole = self.stop == len(source)
        self.spot = 0
        self.is_too_large = False

    def mark(self):
        """Returns the mark of the next token."""
        return self.mark_at(self.spot)

    def mark_behind(self):
        """Returns the mark of the token behind the next one."""
        return self.mark_at(self.spot + 1)

    def mark_at(self, spot):
        """Returns the mark of a token."""
        if spot >= len(self.tokens):
            return ""
        kind, text, _ = self.tokens[spot]
        return kind if kind in ("word", "number") else text

    def here(self):
        """Returns the index at which the next token begins."""
        if self.spot >= len(self.tokens):
            return self.stop
        return self.tokens[self.spot][2]

    def take(self, mark):
        """Returns the text of the next token, and goes behind it; raises BadText if it has another mark."""
        if self.mark() != mark:
            raise BadText(self.here())
        self.spot += 1
        return self.tokens[self.spot - 1][1]

    def take_text(self, text):
        """Goes behind the next token; raises BadText if it is no word with this text."""
        if self.mark() != "word" or self.tokens[self.spot][1] != text:
            raise BadText(self.here())
        self.spot += 1

    def skip(self, mark):
        """Returns True, and goes behind the next token, if it has this mark."""
        is_next = self.mark() == mark
        if is_next:
            self.spot += 1
        return is_next

    def weigh(self, tree):
        """Returns the tree, and remembers if it is too large."""
        if not is_within_bounds(tree):
            self.is_too_large = True
        return tree

    def finish(self):
        """Raises BadText if the source is not over, and then TooLarge if a tree was too large."""
        if self.spot < len(self.tokens) or not self.is_whole:
            raise BadText(self.here())
        if self.is_too_large:
            raise TooLarge("a tree is too large or too deep")
