"""Reading of texts of queries, without a look at a schema."""

from fieldquery.errors import SyntaxFault
from fieldquery.signs import DOTS, END, NUMBER, TYPE_NAME, WORD, signs_of

FIELD = "field"
FRAGMENT = "fragment"
DEEPEST_BRACKETS = 7
DEEPEST_SELECTION = 4


def read_query(text):
    """The entries of a text: a tuple of fields and fragments, each of them a tuple, in order."""
    reader = Reader(signs_of(text))
    entries = reader.entries_in_brackets(1, 1)
    reader.take(END)
    return entries


class Reader:
    """Signs, of which those ahead of the next one are read.

    Methods are told how deep the brackets around the next sign lie: all of them, and those without fragments.
    """

    def __init__(self, signs):
        self.signs = signs
        self.place = 0

    def next_kind(self):
        """The kind of the next sign."""
        return self.signs[self.place][0]

    def take(self, kind):
        """Go past the next sign, which must be of this kind; its characters."""
        if self.next_kind() != kind:
            raise SyntaxFault(self.next_offset())
        characters = self.signs[self.place][1]
        self.place += 1
        return characters

    def next_offset(self):
        """The offset of the next sign."""
        return self.signs[self.place][2]

    def entries_in_brackets(self, depth, selections):
        """The entries in brackets that lie so deep themselves."""
        self.take("{")
        entries = []
        while self.next_kind() != "}":
            entries.append(self.entry(depth, selections))
        self.take("}")
        return tuple(entries)

    def entry(self, depth, selections):
        """A field or a fragment."""
        if self.next_kind() == DOTS:
            return self.fragment(depth, selections)
        return self.field(depth, selections)

    def fragment(self, depth, selections):
        """A fragment, whose brackets do not count as those of a selection."""
        if depth == DEEPEST_BRACKETS:
            raise SyntaxFault(self.next_offset())
        self.take(DOTS)
        type_name = self.take(TYPE_NAME)
        return (FRAGMENT, type_name, self.entries_in_brackets(depth + 1, selections))

    def field(self, depth, selections):
        """A field with its selection, if it has one."""
        key, name = None, self.take(WORD)
        if self.next_kind() == ":":
            self.take(":")
            key, name = name, self.take(WORD)
        number = self.number_in_brackets() if self.next_kind() == "(" else None
        entries = self.selection(depth, selections) if self.next_kind() == "{" else None
        return (FIELD, key, name, number, entries)

    def number_in_brackets(self):
        """The number that a field is given."""
        self.take("(")
        number = int(self.take(NUMBER))
        self.take(")")
        return number

    def selection(self, depth, selections):
        """The entries of the selection of a field."""
        if depth == DEEPEST_BRACKETS or selections == DEEPEST_SELECTION:
            raise SyntaxFault(self.next_offset())
        return self.entries_in_brackets(depth + 1, selections + 1)
