"""Reads a text into a model, or raises its fault."""

from indexesneeded.cutting import END, NAME, NUMBER, cut
from indexesneeded.faults import Fault, TOO_MANY, WRONG_NUMBER, WRONG_TOKEN, WRONG_WORD
from indexesneeded.model import GREATEST_COUNT, GREATEST_OFTEN, GREATEST_VALUE, Index, Model, Question

MOST_COLUMNS = 4
MOST_GROUPS = 12
MOST_QUESTIONS = 6
MOST_INDEXES = 8


class Reader:
    """Goes through the tokens from left to right."""

    def __init__(self, tokens):
        self.tokens = tokens
        self.at = 0

    def here(self):
        """The place of the next token."""
        return self.tokens[self.at][2]

    def sees(self, written):
        """Whether the next token is written so."""
        return self.tokens[self.at][1] == written

    def skips(self, written):
        """Goes past the next token if it's written so, and tells whether it was."""
        seen = self.sees(written)
        if seen:
            self.at += 1
        return seen

    def expect(self, written):
        """Goes past the next token, which must be written so."""
        if not self.skips(written):
            raise Fault(WRONG_TOKEN, self.here())

    def take(self, sort):
        """Goes past the next token, which must be of this sort, and gives it."""
        token = self.tokens[self.at]
        if token[0] != sort:
            raise Fault(WRONG_TOKEN, token[2])
        self.at += 1
        return token


def read_text(text):
    """The model that the text tells."""
    # All tokens are cut first: a fault in one counts ahead of all others.
    reader = Reader(cut(text))
    columns = read_table(reader)
    groups = []
    while reader.sees("row"):
        groups.append(read_row(reader, len(columns), groups))
    questions = read_named(reader, "ask", MOST_QUESTIONS, read_question, columns)
    indexes = read_named(reader, "index", MOST_INDEXES, read_index, columns)
    reader.take(END)
    return Model(len(columns), groups, questions, indexes)


def read_table(reader):
    """The columns' numbers by their words."""
    reader.expect("table")
    reader.expect("(")
    columns = {}
    read_new_column(reader, columns)
    while reader.skips(","):
        read_new_column(reader, columns)
    reader.expect(")")
    reader.expect(";")
    return columns


def read_new_column(reader, columns):
    """Puts a column's word to those that there are."""
    token = reader.take(NAME)
    if token[1] in columns:
        raise Fault(WRONG_WORD, token[2])
    if len(columns) == MOST_COLUMNS:
        raise Fault(TOO_MANY, token[2])
    columns[token[1]] = len(columns)


def read_row(reader, width, groups):
    """A group; those of the earlier rows are handed over."""
    if len(groups) == MOST_GROUPS:
        raise Fault(TOO_MANY, reader.here())
    reader.expect("row")
    place = reader.here()
    values = [read_value(reader, 0)]
    while len(values) < width:
        reader.expect(",")
        values.append(read_value(reader, 0))
    if values in [group[0] for group in groups]:
        raise Fault(WRONG_WORD, place)
    reader.expect("times")
    rows = read_number(reader, 1, GREATEST_COUNT)
    reader.expect(";")
    return (values, rows)


def read_named(reader, opening, most, read_rest, columns):
    """What begins with the opening word and a name of its own, as often as it stands here."""
    found = []
    names = []
    while reader.sees(opening):
        if len(found) == most:
            raise Fault(TOO_MANY, reader.here())
        reader.expect(opening)
        token = reader.take(NAME)
        if token[1] in names:
            raise Fault(WRONG_WORD, token[2])
        names.append(token[1])
        found.append(read_rest(reader, columns))
        reader.expect(";")
    return found


def read_question(reader, columns):
    """A question, from behind its name up to its semicolon."""
    filters = read_filters(reader, columns) if reader.skips("where") else []
    order = []
    backwards = False
    if reader.skips("by"):
        order = read_columns(reader, columns, [])
        backwards = reader.skips("back")
    wanted = read_columns(reader, columns, []) if reader.skips("wants") else []
    limit = read_number(reader, 1, GREATEST_COUNT) if reader.skips("first") else 0
    often = read_number(reader, 0, GREATEST_OFTEN) if reader.skips("times") else 1
    return Question(filters, order, backwards, wanted, limit, often)


def read_index(reader, columns):
    """An index, from behind its name up to its semicolon."""
    reader.expect("on")
    key_columns = read_columns(reader, columns, [])
    included = read_columns(reader, columns, key_columns) if reader.skips("with") else []
    condition = read_filter(reader, columns) if reader.skips("only") else None
    return Index(key_columns, included, condition)


def read_columns(reader, columns, taken):
    """Columns that are unlike one another and those that are taken already."""
    found = [read_column(reader, columns, taken)]
    while reader.skips(","):
        found.append(read_column(reader, columns, taken + found))
    return found


def read_column(reader, columns, taken):
    """The number of a column that isn't taken already."""
    token = reader.take(NAME)
    if token[1] not in columns or columns[token[1]] in taken:
        raise Fault(WRONG_WORD, token[2])
    return columns[token[1]]


def read_filters(reader, columns):
    """A question's filters, of unlike columns."""
    filters = [read_filter(reader, columns)]
    while reader.skips("and"):
        place = reader.here()
        told = read_filter(reader, columns)
        # Faults within the filter come first, so this is asked only behind it.
        if told[0] in [earlier[0] for earlier in filters]:
            raise Fault(WRONG_WORD, place)
        filters.append(told)
    return filters


def read_filter(reader, columns):
    """A filter: its column, from which value, to which one."""
    column = read_column(reader, columns, [])
    if reader.skips("="):
        value = read_value(reader, 0)
        return (column, value, value)
    reader.expect("from")
    low = read_value(reader, 0)
    reader.expect("to")
    return (column, low, read_value(reader, low))


def read_value(reader, least):
    """A column's value that isn't below the least one."""
    return read_number(reader, least, GREATEST_VALUE)


def read_number(reader, least, greatest):
    """A number within these bounds."""
    token = reader.take(NUMBER)
    number = int(token[1])
    if number < least or number > greatest:
        raise Fault(WRONG_NUMBER, token[2])
    return number
