"""The indexes that a question itself suggests."""

from indexesneeded.model import Index, equal_columns, needed_columns, without_equal


def suggested_keys(question):
    """The keys that the question suggests, a list of columns each; one may stand there more than once."""
    equal = equal_columns(question)
    order = without_equal(question, question.order)
    unequal = without_equal(question, [told[0] for told in question.filters])
    suggested = [equal + order] if order else []
    suggested = suggested + [equal + [column] for column in unequal]
    if suggested:
        return suggested
    return [equal or needed_columns(question)[:1] or [0]]


def candidates_of(question):
    """The question's candidates, each once: for each suggestion one without and one with included columns."""
    columns = []
    for key_columns in suggested_keys(question):
        for included in ([], other_needed(question, key_columns)):
            if (key_columns, included) not in columns:
                columns.append((key_columns, included))
    return [Index(both[0], both[1], None) for both in columns]


def other_needed(question, key_columns):
    """The needed columns that are no keys, as they're needed, each once."""
    found = []
    for column in needed_columns(question):
        if column not in key_columns and column not in found:
            found.append(column)
    return found


def candidate_numbers(candidate):
    """A candidate as numbers; it has no condition."""
    key_columns = candidate.key_columns
    included = candidate.included
    return [len(key_columns)] + key_columns + [len(included)] + included + [0]
