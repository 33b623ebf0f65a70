"""What is written, and what that costs an index."""

from indexesneeded.model import GREATEST_COUNT, GREATEST_VALUE, has_row, index_columns, values_at

MADE_OTHERS = 2
ENTRY_CHANGE_COST = 3


class Write:
    """So many rows of the same values; sides are these, and behind them what they are made, if they are."""

    def __init__(self, rows, sides):
        self.rows = rows
        self.sides = sides


def read_write(told, width):
    """The write that the numbers tell, None if they aren't one for a table so wide."""
    if len(told) < 2 or told[0] not in (0, 1, MADE_OTHERS):
        return None
    values = told[2:]
    sides = [values]
    if told[0] == MADE_OTHERS:
        sides = [values[:width], values[width:]]
    if any([len(side) != width for side in sides]):
        return None
    if told[1] < 1 or told[1] > GREATEST_COUNT:
        return None
    if any([value < 0 or value > GREATEST_VALUE for value in values]):
        return None
    return Write(told[1], sides)


def upkeep(index, writes):
    """What all writes cost the index."""
    return sum([ENTRY_CHANGE_COST * write.rows * changed_entries(index, write) for write in writes])


def changed_entries(index, write):
    """How many of the index's entries one row of the write puts in or takes out."""
    inside = [side for side in write.sides if has_row(index, side)]
    if len(inside) == 2:
        columns = index_columns(index)
        if values_at(inside[0], columns) == values_at(inside[1], columns):
            return 0
    return len(inside)
