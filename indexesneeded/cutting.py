"""Cuts a text's bytes into tokens.

A token is a tuple: its sort, how it's written, the place of its first byte.
"""

from indexesneeded.faults import Fault, WRONG_SIGNS

WORD = "word"
NAME = "name"
NUMBER = "number"
SIGN = "sign"
END = "end"

BLANKS = (32, 10)
SIGNS = {40: "(", 41: ")", 44: ",", 59: ";", 61: "="}
FIRST_LETTER = 97
LETTERS = "abcdefghijklmnopqrstuvwxyz"
FIRST_DIGIT = 48
DIGITS = "0123456789"
LONGEST_RUN = 7
RESERVED = (
    "table", "row", "ask", "index", "where", "and", "from", "to", "by", "back", "wants", "first", "times", "on",
    "with", "only",
)


def cut(text):
    """All tokens of the text, and behind them one that stands for its end."""
    tokens = []
    at = 0
    while at < len(text):
        if text[at] in BLANKS:
            at += 1
        else:
            token = token_at(text, at)
            tokens.append(token)
            at += len(token[1])
    tokens.append((END, "", len(text)))
    return tokens


def token_at(text, at):
    """The token that begins at this place."""
    if text[at] in SIGNS:
        return (SIGN, SIGNS[text[at]], at)
    word = run_at(text, at, FIRST_LETTER, LETTERS)
    digits = run_at(text, at, FIRST_DIGIT, DIGITS)
    length = len(word) + len(digits)
    if length == 0 or length > LONGEST_RUN or (len(digits) > 1 and digits[0] == "0"):
        raise Fault(WRONG_SIGNS, at)
    if digits:
        return (NUMBER, digits, at)
    return (WORD if word in RESERVED else NAME, word, at)


def run_at(text, at, first, signs):
    """The longest run from this place on of signs whose bytes begin with first."""
    run = []
    while at < len(text) and first <= text[at] < first + len(signs):
        run.append(signs[text[at] - first])
        at += 1
    return "".join(run)
