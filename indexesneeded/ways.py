"""What a question costs by the whole table and by an index."""

from indexesneeded.model import entry_groups, equal_columns, index_columns, needed_columns, passes_all, values_at
from indexesneeded.model import without_equal

WHOLE_TABLE = -1

ENTRY_COST = 1
ROW_COST = 2
LOOK_UP_COST = 4
SORT_COST = 3


class Way:
    """How a question is answered once: by an index's number or the whole table, and what is done."""

    def __init__(self, number, touched, looked_up, in_sorting, cost):
        self.number = number
        self.touched = touched
        self.looked_up = looked_up
        self.in_sorting = in_sorting
        self.cost = cost


def best_way(model, question, chosen):
    """The cheapest way; of those alike the first, the whole table ahead of all indexes."""
    best = table_way(model.groups, question)
    for number in chosen:
        index = model.indexes[number]
        if serves(index, question):
            way = index_way(model.groups, question, number, index)
            if way.cost < best.cost:
                best = way
    return best


def serves(index, question):
    """Whether all rows that the question may find are sure to be in the index."""
    if index.condition is None:
        return True
    column = index.condition[0]
    low = index.condition[1]
    high = index.condition[2]
    return any([told[0] == column and low <= told[1] and told[2] <= high for told in question.filters])


def covers(index, question):
    """Whether the index has all columns that the question needs."""
    own = index_columns(index)
    return all([column in own for column in needed_columns(question)])


def table_way(groups, question):
    """The question's way by the whole table, whose rows are touched as they lie."""
    free = not without_equal(question, question.order)
    done = touch(groups, question, free, None)
    in_sorting = 0 if free else done[2]
    cost = ROW_COST * done[0] + SORT_COST * in_sorting
    return Way(WHOLE_TABLE, done[0], 0, in_sorting, cost)


def index_way(groups, question, number, index):
    """The question's way by an index that serves it."""
    free = order_is_free(index, question)
    done = touch(range_groups(groups, question, index), question, free, look_up_filters(index, question))
    in_sorting = 0 if free else done[2]
    cost = ENTRY_COST * done[0] + LOOK_UP_COST * done[1] + SORT_COST * in_sorting
    return Way(number, done[0], done[1], in_sorting, cost)


def look_up_filters(index, question):
    """The filters that an entry passes which is looked up; None if nothing is."""
    if covers(index, question):
        return None
    own = index_columns(index)
    return [told for told in question.filters if told[0] in own]


def touch(groups, question, free, filters):
    """How many rows of the groups are touched, looked up and found.

    Rows that pass the filters handed over are looked up; None if nothing is.
    """
    limit = question.limit if free else 0
    touched = 0
    looked_up = 0
    found = 0
    for values, rows in groups:
        is_found = passes_all(values, question.filters)
        taken = min(rows, limit - found) if is_found and limit > 0 else rows
        touched += taken
        if filters is not None and passes_all(values, filters):
            looked_up += taken
        if is_found:
            found += taken
        if limit > 0 and found == limit:
            break
    return (touched, looked_up, found)


def order_is_free(index, question):
    """Whether the index's entries come in the question's order by themselves."""
    order = without_equal(question, question.order)
    return without_equal(question, index.key_columns)[:len(order)] == order


def range_groups(groups, question, index):
    """The groups of the entries in the range, as they are touched."""
    filters = range_filters(question, index)
    inside = [group for group in entry_groups(index, groups) if passes_all(group[0], filters)]
    touched = sorted(inside, key=lambda group: values_at(group[0], index.key_columns))
    return list(reversed(touched)) if question.backwards else touched


def range_filters(question, index):
    """The filters that hold the range: of the first keys with equal filters, and of the key behind these."""
    equal = equal_columns(question)
    leading = []
    for column in index.key_columns:
        leading.append(column)
        if column not in equal:
            break
    return [told for told in question.filters if told[0] in leading]
