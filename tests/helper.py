"""Calls written by name, their answers taken apart, and what the document asks, told anew over bytes."""

from itertools import product

from textendings.endings import answers

LARGEST = 4294967295


def start(text):
    return [0, len(text)] + list(text)


def order():
    return [1]


def place(k):
    return [2, k]


def rank(i):
    return [3, i]


def common(i, j):
    return [4, i, j]


def count(piece):
    return [5, len(piece)] + list(piece)


def apart(given):
    """The list that is given back as one list an answer."""
    found = []
    at = 0
    while at < len(given):
        length = given[at]
        row = given[at + 1:at + 1 + length]
        if length < 1 or len(row) != length:
            raise ValueError(f"the answer at {at} is cut off or empty: {given}")
        found.append(row)
        at += 1 + length
    return found


def ask(*calls):
    """The answers to these calls, one list each."""
    return apart(answers([number for call in calls for number in call]))


def ask_of(text, *calls):
    """The answers to these calls after a start with the text, without the start's."""
    return ask(start(text), *calls)[1:]


def small_texts(letters, most):
    """All texts of these bytes, up to that length, the empty one too."""
    return [bytes(text) for length in range(most + 1) for text in product(letters, repeat=length)]


def expected_order(text):
    """The places of the endings, each put in by how many endings come before it."""
    endings = [text[at:] for at in range(len(text))]
    places = [None] * len(text)
    for at, ending in enumerate(endings):
        places[sum(other < ending for other in endings)] = at
    return places


def expected_common(text, i, j):
    """The longest beginning of one ending that begins the other, too."""
    return max(length for length in range(len(text) - i + 1) if text[j:].startswith(text[i:i + length]))


def expected_count(text, piece):
    """How many endings the piece begins."""
    return sum(text[at:].startswith(piece) for at in range(len(text)))
