"""What a question answers, told by counts."""

from indexesneeded.model import passes_all, values_at


def found_parts(groups, question):
    """The parts in order: each the values in the order's columns, and how many rows are found."""
    counts = {}
    for values, rows in groups:
        if passes_all(values, question.filters):
            part = tuple(values_at(values, question.order))
            counts[part] = counts.get(part, 0) + rows
    parts = sorted(counts.items())
    return list(reversed(parts)) if question.backwards else parts


def answered_parts(groups, question):
    """The first parts, up to the question's limit."""
    parts = found_parts(groups, question)
    if question.limit == 0:
        return parts
    missing = question.limit
    answered = []
    for values, rows in parts:
        if missing == 0:
            break
        taken = min(rows, missing)
        answered.append((values, taken))
        missing -= taken
    return answered
