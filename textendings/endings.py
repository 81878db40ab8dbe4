"""The calls on one text: read from a list of whole numbers, answered in another."""

START = 0
ORDER = 1
PLACE = 2
RANK = 3
COMMON = 4
COUNT = 5

# By a call's number: how many whole numbers follow it, and whether a row stands behind these.
WHOLE_NUMBERS = (0, 0, 1, 1, 2, 0)
HAS_ROW = (True, False, False, False, False, True)

NO_BYTE = -1
OUT_OF_REACH = -2


def places_in_order(text):
    """The places of all endings, in the endings' order."""
    # Python puts lists in the document's order, a list that begins another first;
    # no two endings are of one length, so there are no ties.
    return sorted(range(len(text)), key=lambda place: text[place:])


def kth_place(text, k):
    """The place of the k-th ending in order."""
    if k >= len(text):
        return OUT_OF_REACH
    return places_in_order(text)[k]


def rank_of(text, i):
    """Which in order the ending at place i is."""
    if i >= len(text):
        return OUT_OF_REACH
    return places_in_order(text).index(i)


def common_length(text, i, j):
    """How many bytes the endings at i and j have in common from their beginnings on."""
    # The length of the text is a place here, too: that of the empty ending.
    if i > len(text) or j > len(text):
        return OUT_OF_REACH
    length = 0
    while max(i, j) + length < len(text) and text[i + length] == text[j + length]:
        length = length + 1
    return length


def places_of(text, piece):
    """The places at which the piece stands, in rising order."""
    length = len(piece)
    # A piece longer than the text leaves no place to walk, so it stands nowhere.
    return [place for place in range(len(text) - length + 1) if text[place:place + length] == piece]


def count_of(text, piece):
    """At how many places the piece stands."""
    if len(piece) == 0:
        return NO_BYTE
    return len(places_of(text, piece))


def answer(text, number, numbers, row):
    """What one call other than start answers, number by number."""
    if number == ORDER:
        return [len(text)] + places_in_order(text)
    if number == PLACE:
        return [kth_place(text, numbers[0])]
    if number == RANK:
        return [rank_of(text, numbers[0])]
    if number == COMMON:
        return [common_length(text, numbers[0], numbers[1])]
    return [count_of(text, row)]


def answers(calls):
    """The answers to all calls of the list, each with how many numbers it has before it."""
    text = []
    given = []
    at = 0
    while at < len(calls):
        number = calls[at]
        at = at + 1
        numbers = calls[at:at + WHOLE_NUMBERS[number]]
        at = at + len(numbers)
        row = []
        if HAS_ROW[number]:
            row = calls[at + 1:at + 1 + calls[at]]
            at = at + 1 + len(row)
        if number == START:
            text = row
            answered = [0]
        else:
            answered = answer(text, number, numbers, row)
        given.append(len(answered))
        given.extend(answered)
    return given
