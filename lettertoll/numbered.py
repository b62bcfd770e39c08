"""The cheapest kept codes by their numbers, in the order of their spellings."""

from lettertoll.counted import Counts, CountsWith
from lettertoll.errors import BadNumber, NotCheapest
from lettertoll.kept import is_cheapest_kept

# Where two spellings differ first, the way on differs there: so codes are
# ordered by their first way on, (letter, end of its part), then by the codes of
# that part, then by the ways on behind it.


def numbered(prices, weights, number):
    counts = Counts(prices, weights)
    if not 0 <= number < counts.codes[0][len(weights)]:
        raise BadNumber("no cheapest kept code has this number")
    return tuple(words_by(counts, number, 0, len(weights)))


def words_by(counts, number, first, end):
    if end - first == 1:
        return [()]
    return tail_words(counts, number, 0, first, end)


def tail_words(counts, number, letter, first, end):
    if first == end:
        return []
    ways = counts.parted.ways(letter, first, end)
    left = number
    at = 0
    while left >= counts.by_way(ways[at], first, end):
        left = left - counts.by_way(ways[at], first, end)
        at += 1
    way = ways[at]
    behind = counts.tails[way[0] + 1][way[1]][end]
    inside = words_by(counts, left // behind, first, way[1])
    rest = tail_words(counts, left % behind, way[0] + 1, way[1], end)
    return [(way[0],) + word for word in inside] + rest


def number_of(prices, weights, code):
    if not is_cheapest_kept(prices, weights, code):
        raise NotCheapest("this is no cheapest kept code")
    return number_of_words(Counts(prices, weights), code, 0, len(weights), 0)


# All words of the stretch share their first so many letters.
def number_of_words(counts, code, first, end, size):
    if end - first == 1:
        return 0
    return number_of_tail(counts, code, 0, first, end, size)


def number_of_tail(counts, code, letter, first, end, size):
    if first == end:
        return 0
    own = way_of(code, first, end, size)
    ahead = [way for way in counts.parted.ways(letter, first, end) if way < own]
    behind = counts.tails[own[0] + 1][own[1]][end]
    inside = number_of_words(counts, code, first, own[1], size + 1)
    rest = number_of_tail(counts, code, own[0] + 1, own[1], end, size)
    return sum([counts.by_way(way, first, end) for way in ahead]) + inside * behind + rest


def way_of(code, first, end, size):
    cut = first
    while cut < end and code[cut][size] == code[first][size]:
        cut += 1
    return (code[first][size], cut)


def sure_words(prices, weights):
    counts = Counts(prices, weights)
    code = words_by(counts, 0, 0, len(weights))
    return [sure_word(counts, thing, code) for thing in range(len(weights))]


# A word that all codes give is the one that any of them gives.
def sure_word(counts, thing, code):
    many = CountsWith(counts, thing, code[thing]).of_stretch(0, len(code), 0)
    return code[thing] if many == counts.codes[0][len(code)] else None
