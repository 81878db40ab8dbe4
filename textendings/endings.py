"""The calls on one text: read from a list of whole numbers, answered in another."""

START = 0
ORDER = 1
PLACE = 2
RANK = 3
COMMON = 4
COUNT = 5
FIND = 6
REPEAT = 7
DIFFERENT = 8
NTH = 9
SHARED = 10

# By a call's number: how many whole numbers follow it, and whether a row stands behind these.
WHOLE_NUMBERS = (0, 0, 1, 1, 2, 0, 1, 1, 0, 1, 0, 0)
HAS_ROW = (True, False, False, False, False, True, True, False, False, False, True, False)

NO_BYTE = -1
NO_TIMES = -1
OUT_OF_REACH = -2


def places_in_order(text):
    """The places of all endings, in the endings' order."""
    # Python puts lists in the document's order, a list that begins another first;
    # no two endings are of one length, so there are no ties.
    return sorted(range(len(text)), key=lambda place: text[place:])


def kth_place(text, k):
    """The place of the k-th ending in order."""
    if k >= len(text):
        return OUT_OF_REACH
    return places_in_order(text)[k]


def rank_of(text, i):
    """Which in order the ending at place i is."""
    if i >= len(text):
        return OUT_OF_REACH
    return places_in_order(text).index(i)


def common_length(text, i, j):
    """How many bytes the endings at i and j have in common from their beginnings on."""
    # The length of the text is a place here, too: that of the empty ending.
    if i > len(text) or j > len(text):
        return OUT_OF_REACH
    length = 0
    while max(i, j) + length < len(text) and text[i + length] == text[j + length]:
        length = length + 1
    return length


def places_of(text, piece):
    """The places at which the piece stands, in rising order."""
    length = len(piece)
    # A piece longer than the text leaves no place to walk, so it stands nowhere.
    return [place for place in range(len(text) - length + 1) if text[place:place + length] == piece]


def count_of(text, piece):
    """At how many places the piece stands."""
    if len(piece) == 0:
        return NO_BYTE
    return len(places_of(text, piece))


def kth_place_of(text, k, piece):
    """The k-th of the places at which the piece stands."""
    if len(piece) == 0:
        return NO_BYTE
    places = places_of(text, piece)
    if k >= len(places):
        return OUT_OF_REACH
    return places[k]


def first_place_of(text, piece):
    """The first place of a piece that stands in the text."""
    return places_of(text, piece)[0]


def different_pieces(text):
    """All different pieces, in order."""
    pieces = []
    # The empty ending comes before all others and has no byte in common with them.
    before = len(text)
    for place in places_in_order(text):
        # What an ending has in common with the one before it has been met there; its longer
        # beginnings are new, and come behind all that the endings before it begin with.
        shortest = common_length(text, before, place) + 1
        pieces.extend([text[place:end] for end in range(place + shortest, len(text) + 1)])
        before = place
    return pieces


def longest_first(pieces):
    """The longest of these pieces, which are in order, and of several the first; [] where there's none."""
    # Of several that are equally long, Python's max takes the one it meets first.
    return max(pieces, key=len, default=[])


def longest_repeated(text, times):
    """The length and first place of the longest piece that stands at that many places at least."""
    if times == 0:
        return [NO_TIMES]
    longest = longest_first([piece for piece in different_pieces(text) if count_of(text, piece) >= times])
    if len(longest) == 0:
        return [0]
    return [len(longest), first_place_of(text, longest)]


def kth_different(text, k):
    """The length and first place of the k-th of the different pieces."""
    pieces = different_pieces(text)
    if k >= len(pieces):
        return [OUT_OF_REACH]
    return [len(pieces[k]), first_place_of(text, pieces[k])]


def longest_shared(text, other):
    """The length and first places of the longest piece that stands in the other text, too."""
    longest = longest_first([piece for piece in different_pieces(text) if count_of(other, piece) > 0])
    if len(longest) == 0:
        return [0]
    return [len(longest), first_place_of(text, longest), first_place_of(other, longest)]


def first_turn(text):
    """The first place from which the text, gone on with at its beginning, comes first in order."""
    if len(text) == 0:
        return OUT_OF_REACH
    turns = [text[place:] + text[:place] for place in range(len(text))]
    return turns.index(min(turns))


def answer(text, number, numbers, row):
    """What one call other than start answers, number by number."""
    if number == ORDER:
        return [len(text)] + places_in_order(text)
    if number == PLACE:
        return [kth_place(text, numbers[0])]
    if number == RANK:
        return [rank_of(text, numbers[0])]
    if number == COMMON:
        return [common_length(text, numbers[0], numbers[1])]
    if number == COUNT:
        return [count_of(text, row)]
    if number == FIND:
        return [kth_place_of(text, numbers[0], row)]
    if number == REPEAT:
        return longest_repeated(text, numbers[0])
    if number == DIFFERENT:
        return [len(different_pieces(text))]
    if number == NTH:
        return kth_different(text, numbers[0])
    if number == SHARED:
        return longest_shared(text, row)
    return [first_turn(text)]


def answers(calls):
    """The answers to all calls of the list, each with how many numbers it has before it."""
    text = []
    given = []
    at = 0
    while at < len(calls):
        number = calls[at]
        at = at + 1
        numbers = calls[at:at + WHOLE_NUMBERS[number]]
        at = at + len(numbers)
        row = []
        if HAS_ROW[number]:
            row = calls[at + 1:at + 1 + calls[at]]
            at = at + 1 + len(row)
        if number == START:
            text = row
            answered = [0]
        else:
            answered = answer(text, number, numbers, row)
        given.append(len(answered))
        given.extend(answered)
    return given
