"""The calls on one object, and what they answer."""

from indexesneeded.candidates import candidate_numbers, candidates_of
from indexesneeded.choices import askings_cost, costs_of, kept_sets, least_sets, rises_below, set_cost, set_room
from indexesneeded.choices import upkeep_cost, worth_with
from indexesneeded.faults import Fault
from indexesneeded.margins import margin_of
from indexesneeded.model import GREATEST_OFTEN, index_room
from indexesneeded.outdoing import outdone_indexes
from indexesneeded.parts import answered_parts
from indexesneeded.plans import least_plans
from indexesneeded.proofs import SPLIT, is_accepted, is_proof, made_proof
from indexesneeded.reading import MOST_INDEXES, read_text
from indexesneeded.ways import best_way
from indexesneeded.writes import read_write, upkeep

LONGEST_TEXT = 1200
MOST_WRITES = 6
MOST_DAYS = 6
MOST_PLANNED_INDEXES = 5
GREATEST_ROOM = 1000000000
GREATEST_KEPT_COST = 1000000000

NOT_IN_FORM = -1
NO_QUESTION = -2
NO_INDEX = -3
NO_PROOF = -4
NO_CANDIDATE = -4
OUT_OF_BOUNDS = -5
TOO_MANY = -6
TOO_MANY_TO_PLAN = -7
NO_TEXT = -8

LOAD = 0


class Keeper:
    """The one object: the text's model (None if there's no text), the writes, the days, the room."""

    def __init__(self):
        self.model = None
        self.writes = []
        self.days = []
        self.room = 0


def load(keeper, numbers, told):
    """Takes a new text, unless it's too long or has a fault."""
    if len(told) > LONGEST_TEXT:
        return [NOT_IN_FORM]
    try:
        model = read_text(told)
    except Fault as fault:
        return [1, fault.kind, fault.place]
    keeper.model = model
    keeper.writes = []
    keeper.days = []
    keeper.room = 0
    return [0, model.width, len(model.groups), len(model.questions), len(model.indexes)]


def write(keeper, numbers, told):
    """Puts a write behind the others."""
    taken = read_write(told, keeper.model.width)
    if taken is None:
        return [NOT_IN_FORM]
    if len(keeper.writes) == MOST_WRITES:
        return [TOO_MANY]
    keeper.writes.append(taken)
    return [len(keeper.writes) - 1]


def set_the_room(keeper, numbers, told):
    """Takes a new room."""
    if numbers[0] < 0 or numbers[0] > GREATEST_ROOM:
        return [OUT_OF_BOUNDS]
    keeper.room = numbers[0]
    return [keeper.room]


def day(keeper, numbers, told):
    """Puts a day behind the others."""
    if len(told) != len(keeper.model.questions):
        return [NOT_IN_FORM]
    if any([often < 0 or often > GREATEST_OFTEN for often in told]):
        return [NOT_IN_FORM]
    if len(keeper.days) == MOST_DAYS:
        return [TOO_MANY]
    keeper.days.append(told)
    return [len(keeper.days) - 1]


def way(keeper, numbers, told):
    """A question's best way with a set."""
    model = keeper.model
    if not has_question(model, numbers[0]):
        return [NO_QUESTION]
    if not rises_below(told, len(model.indexes)):
        return [NO_INDEX]
    best = best_way(model, model.questions[numbers[0]], told)
    return [best.number, best.touched, best.looked_up, best.in_sorting, best.cost]


def answer(keeper, numbers, told):
    """What a question answers, part by part."""
    model = keeper.model
    if not has_question(model, numbers[0]):
        return [NO_QUESTION]
    parts = answered_parts(model.groups, model.questions[numbers[0]])
    given = [sum([part[1] for part in parts]), len(parts)]
    for values, rows in parts:
        given.append(rows)
        given.extend(values)
    return given


def total(keeper, numbers, told):
    """What a set's askings and upkeep cost, and its room."""
    if not rises_below(told, len(keeper.model.indexes)):
        return [NO_INDEX]
    costs = costs_of(keeper.model, keeper.writes)
    return [askings_cost(costs, told), upkeep_cost(costs, told), set_room(costs, told)]


def least(keeper, numbers, told):
    """What least sets cost, how many there are, and the first one."""
    costs = costs_of(keeper.model, keeper.writes)
    sets = least_sets(costs, keeper.room)
    return [set_cost(costs, sets[0]), len(sets), len(sets[0])] + sets[0]


def prove(keeper, numbers, told):
    """The proof that's made for what least sets cost."""
    costs = costs_of(keeper.model, keeper.writes)
    least_cost = set_cost(costs, least_sets(costs, keeper.room)[0])
    proof = made_proof(costs, keeper.room, least_cost)
    ends = [number for number in proof if number != SPLIT]
    return [least_cost, len(ends)] + proof


def check(keeper, numbers, told):
    """Whether a proof is accepted for a told cost."""
    if numbers[0] < 0:
        return [OUT_OF_BOUNDS]
    if not is_proof(told):
        return [NO_PROOF]
    costs = costs_of(keeper.model, keeper.writes)
    return [1 if is_accepted(costs, keeper.room, numbers[0], told) else 0]


def margin(keeper, numbers, told):
    """The least and the greatest number of a question's askings that leave the first least set least."""
    if not has_question(keeper.model, numbers[0]):
        return [NO_QUESTION]
    ends = margin_of(costs_of(keeper.model, keeper.writes), keeper.room, numbers[0])
    return list(ends[0]) + list(ends[1])


def kept(keeper, numbers, told):
    """The first least of the sets that keep a question's cost."""
    if not has_question(keeper.model, numbers[0]):
        return [NO_QUESTION]
    if numbers[1] < 0 or numbers[1] > GREATEST_KEPT_COST:
        return [OUT_OF_BOUNDS]
    costs = costs_of(keeper.model, keeper.writes)
    sets = kept_sets(costs, keeper.room, numbers[0], numbers[1])
    if not sets:
        return [0]
    return [1, set_cost(costs, sets[0]), len(sets[0])] + sets[0]


def outdone(keeper, numbers, told):
    """Which indexes are outdone, and by which ones."""
    found = outdone_indexes(costs_of(keeper.model, keeper.writes))
    given = [len(found)]
    for both in found:
        given.extend(both)
    return given


def worth(keeper, numbers, told):
    """An index's worth with a set, and its upkeep."""
    count = len(keeper.model.indexes)
    if numbers[0] < 0 or numbers[0] >= count:
        return [NO_INDEX]
    if not rises_below(told, count):
        return [NO_INDEX]
    costs = costs_of(keeper.model, keeper.writes)
    return [worth_with(costs, numbers[0], told), costs.upkeeps[numbers[0]]]


def candidates(keeper, numbers, told):
    """The indexes that a question suggests."""
    if not has_question(keeper.model, numbers[0]):
        return [NO_QUESTION]
    found = candidates_of(keeper.model.questions[numbers[0]])
    given = [len(found)]
    for candidate in found:
        given.extend(candidate_numbers(candidate))
    return given


def make(keeper, numbers, told):
    """Puts a question's candidate behind the indexes."""
    model = keeper.model
    if not has_question(model, numbers[0]):
        return [NO_QUESTION]
    found = candidates_of(model.questions[numbers[0]])
    if numbers[1] < 0 or numbers[1] >= len(found):
        return [NO_CANDIDATE]
    if len(model.indexes) == MOST_INDEXES:
        return [TOO_MANY]
    made = found[numbers[1]]
    model.indexes.append(made)
    return [len(model.indexes) - 1, index_room(made, model.groups), upkeep(made, keeper.writes)]


def plan(keeper, numbers, told):
    """What least plans cost, how many there are, and the first one."""
    if len(keeper.model.indexes) > MOST_PLANNED_INDEXES:
        return [TOO_MANY_TO_PLAN]
    plans = least_plans(costs_of(keeper.model, keeper.writes), keeper.days, keeper.room)
    given = [plans.cost, plans.how_many, len(plans.sets)]
    for chosen in plans.sets:
        given.append(len(chosen))
        given.extend(chosen)
    return given


def has_question(model, number):
    """Whether there's a question of this number."""
    return 0 <= number < len(model.questions)


# By a call's number: what answers it, how many plain numbers it has, how many lists (0 or 1) behind them.
CALLS = (
    (load, 0, 1),
    (write, 0, 1),
    (set_the_room, 1, 0),
    (day, 0, 1),
    (way, 1, 1),
    (answer, 1, 0),
    (total, 0, 1),
    (least, 0, 0),
    (prove, 0, 0),
    (check, 1, 1),
    (margin, 1, 0),
    (kept, 2, 0),
    (outdone, 0, 0),
    (worth, 1, 1),
    (candidates, 1, 0),
    (make, 2, 0),
    (plan, 0, 0),
)


def answers(calls):
    """What all calls answer, in order, each with how many numbers that is ahead of it."""
    keeper = Keeper()
    given = []
    at = 0
    while at < len(calls):
        number = calls[at]
        lists_at = at + 1 + CALLS[number][1]
        numbers = calls[at + 1:lists_at]
        told = []
        at = lists_at
        if CALLS[number][2] == 1:
            at = lists_at + 1 + calls[lists_at]
            told = calls[lists_at + 1:at]
        answered = answer_call(keeper, number, numbers, told)
        given.append(len(answered))
        given.extend(answered)
    return given


def answer_call(keeper, number, numbers, told):
    """What one call answers; without a text only a load is looked at."""
    if keeper.model is None and number != LOAD:
        return [NO_TEXT]
    answering = CALLS[number][0]
    return answering(keeper, numbers, told)
