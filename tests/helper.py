"""Puts calls into the numbers of the interface, and takes the answers out of them."""

from indexesneeded.tables import answers

EXAMPLE = (
    "table (a, b); row 1, 5 times 3; row 1, 7 times 2; row 2, 5 times 4; row 3, 9 times 1; "
    "ask q where a = 1 by b wants b first 2 times 5; ask r where b = 5 wants a times 2; "
    "index i on a, b; index j on b with a;"
)


def listed(numbers):
    return [len(numbers), *numbers]


def load(text):
    return [0, *listed(list(text.encode("latin-1")))]


def write(*told):
    return [1, *listed(told)]


def room(number):
    return [2, number]


def day(*told):
    return [3, *listed(told)]


def way(question, *chosen):
    return [4, question, *listed(chosen)]


def answer(question):
    return [5, question]


def total(*chosen):
    return [6, *listed(chosen)]


def least():
    return [7]


def prove():
    return [8]


def check(cost, *proof):
    return [9, cost, *listed(proof)]


def margin(question):
    return [10, question]


def kept(question, cost):
    return [11, question, cost]


def outdone():
    return [12]


def worth(index, *chosen):
    return [13, index, *listed(chosen)]


def candidates(question):
    return [14, question]


def make(question, candidate):
    return [15, question, candidate]


def plan():
    return [16]


def joined(calls):
    return [number for call in calls for number in call]


def run(*calls):
    """What each call answers, a list each."""
    given = answers(joined(calls))
    found = []
    at = 0
    while at < len(given):
        end = at + 1 + given[at]
        found.append(given[at + 1:end])
        at = end
    assert at == len(given) and len(found) == len(calls), given
    return found


def last(*calls):
    """What the last call answers."""
    return run(*calls)[-1]


def numbers(text):
    return [int(word) for word in text.split()]
