"""What a text tells: a table's groups, questions and indexes.

A filter is a tuple: its column, from which value, to which one.
A group is a tuple: its values, how many rows it has.
"""

GREATEST_VALUE = 9
GREATEST_COUNT = 1000000
GREATEST_OFTEN = 1000


class Question:
    """What is asked of the table, and how often."""

    def __init__(self, filters, order, backwards, wanted, limit, often):
        self.filters = filters
        self.order = order
        self.backwards = backwards
        self.wanted = wanted
        self.limit = limit
        self.often = often


class Index:
    """An index that might be had; the condition is a filter or None."""

    def __init__(self, key_columns, included, condition):
        self.key_columns = key_columns
        self.included = included
        self.condition = condition


class Model:
    """A whole text without a fault."""

    def __init__(self, width, groups, questions, indexes):
        self.width = width
        self.groups = groups
        self.questions = questions
        self.indexes = indexes


def passes(values, told):
    """Whether a row of these values passes the filter."""
    return told[1] <= values[told[0]] <= told[2]


def passes_all(values, filters):
    """Whether a row of these values passes all the filters."""
    return all([passes(values, told) for told in filters])


def values_at(values, columns):
    """A row's values in these columns."""
    return [values[column] for column in columns]


def equal_columns(question):
    """The columns that the question holds to a single value."""
    return [told[0] for told in question.filters if told[1] == told[2]]


def without_equal(question, columns):
    """The columns that the question doesn't hold to a single value, in their order."""
    equal = equal_columns(question)
    return [column for column in columns if column not in equal]


def needed_columns(question):
    """The columns of filters, order and wishes; one may stand there more than once."""
    return [told[0] for told in question.filters] + question.order + question.wanted


def index_columns(index):
    """The index's own columns; that of its condition isn't one for that alone."""
    return index.key_columns + index.included


def has_row(index, values):
    """Whether a row of these values is in the index."""
    return index.condition is None or passes(values, index.condition)


def entry_groups(index, groups):
    """The groups whose rows are the index's entries, as they lie."""
    return [group for group in groups if has_row(index, group[0])]


def index_room(index, groups):
    """The room that the index takes."""
    rows = sum([group[1] for group in entry_groups(index, groups)])
    return rows * (1 + len(index_columns(index)))
