"""Calls written by name, their answers taken apart, and what the document asks, told anew over bytes."""

from itertools import product

from textendings.endings import answers

LARGEST = 4294967295


def start(text):
    return [0, len(text)] + list(text)


def order():
    return [1]


def place(k):
    return [2, k]


def rank(i):
    return [3, i]


def common(i, j):
    return [4, i, j]


def count(piece):
    return [5, len(piece)] + list(piece)


def find(k, piece):
    return [6, k, len(piece)] + list(piece)


def repeat(times):
    return [7, times]


def different():
    return [8]


def nth(k):
    return [9, k]


def shared(other):
    return [10, len(other)] + list(other)


def turn():
    return [11]


def apart(given):
    """The list that is given back as one list an answer."""
    found = []
    at = 0
    while at < len(given):
        length = given[at]
        row = given[at + 1:at + 1 + length]
        if length < 1 or len(row) != length:
            raise ValueError(f"the answer at {at} is cut off or empty: {given}")
        found.append(row)
        at += 1 + length
    return found


def ask(*calls):
    """The answers to these calls, one list each."""
    return apart(answers([number for call in calls for number in call]))


def ask_of(text, *calls):
    """The answers to these calls after a start with the text, without the start's."""
    return ask(start(text), *calls)[1:]


def small_texts(letters, most):
    """All texts of these bytes, up to that length, the empty one too."""
    return [bytes(text) for length in range(most + 1) for text in product(letters, repeat=length)]


def expected_order(text):
    """The places of the endings, each put in by how many endings come before it."""
    endings = [text[at:] for at in range(len(text))]
    places = [None] * len(text)
    for at, ending in enumerate(endings):
        places[sum(other < ending for other in endings)] = at
    return places


def expected_common(text, i, j):
    """The longest beginning of one ending that begins the other, too."""
    return max(length for length in range(len(text) - i + 1) if text[j:].startswith(text[i:i + length]))


def expected_count(text, piece):
    """How many endings the piece begins."""
    return sum(text[at:].startswith(piece) for at in range(len(text)))


def expected_find(text, k, piece):
    """The k-th place is where one looks on, one byte behind the place before it."""
    if not piece:
        return -1
    at = text.find(piece)
    while k > 0 and at >= 0:
        at = text.find(piece, at + 1)
        k -= 1
    return at if at >= 0 else -2


def expected_pieces(text):
    """Bytes are put in order by Python as the document tells."""
    return sorted({text[at:end] for at in range(len(text)) for end in range(at + 1, len(text) + 1)})


def longest_and_first(pieces):
    return min(pieces, key=lambda piece: (-len(piece), piece))


def expected_repeat(text, times):
    if times == 0:
        return [-1]
    often = [piece for piece in expected_pieces(text) if expected_count(text, piece) >= times]
    if not often:
        return [0]
    piece = longest_and_first(often)
    return [len(piece), text.find(piece)]


def expected_nth(text, k):
    pieces = expected_pieces(text)
    return [len(pieces[k]), text.find(pieces[k])] if k < len(pieces) else [-2]


def expected_shared(text, other):
    both = set(expected_pieces(text)) & set(expected_pieces(other))
    if not both:
        return [0]
    piece = longest_and_first(both)
    return [len(piece), text.find(piece), other.find(piece)]


def expected_turn(text):
    """Of the text twice over, the run of its length that comes first in order, where it first stands."""
    if not text:
        return -2
    twice = text + text
    return twice.find(min(twice[at:at + len(text)] for at in range(len(text))))
