"""What the tests share: calls by their names, and the way as the document's words define it."""

from fractions import Fraction
from math import isqrt

from roundway.triples import answers

NUMBERS = {
    "begin": 0, "step": 1, "steps": 2, "taken": 3, "fits": 4, "all": 5, "diffs": 6, "least": 7,
    "long": 8, "short": 9, "longest": 10, "greatest": 11, "minus": 12, "again": 13, "done": 14, "told": 15,
}

EVERY_N = [n for n in range(2, 61) if isqrt(n) ** 2 != n]
WRONG_N = [0, 1, 4, 9, 16, 25, 36, 49, 61, 62, 64, 4294967294, 4294967295]
WRONG_B = [0, 1, 61, 62, 64, 4294967294, 4294967295]
GREATEST = 4294967295


def written(calls):
    """Calls such as "step" or ("begin", 2) as the one list of whole numbers."""
    numbers = []
    for call in calls:
        if isinstance(call, str):
            call = (call,)
        numbers.append(NUMBERS[call[0]])
        numbers.extend(call[1:])
    return numbers


def split_answers(told):
    """What answers(..) gave back, as one list for each call."""
    parts = []
    place = 0
    while place < len(told):
        count = told[place]
        part = told[place + 1:place + 1 + count]
        if len(part) != count:
            raise AssertionError(f"{count} numbers are told, {len(part)} are there")
        parts.append(part)
        place += 1 + count
    return parts


def ask(*calls):
    parts = split_answers(answers(written(calls)))
    if len(parts) != len(calls):
        raise AssertionError(f"{len(calls)} calls, {len(parts)} answers")
    return parts


def whole(over, under):
    part = Fraction(over, under)
    if part.denominator != 1:
        raise AssertionError(f"{over} is divided by {under} with a rest")
    return part.numerator


def nearest(numbers, n):
    return sorted(numbers, key=lambda number: (abs(number * number - n), number))[0]


def first_by_words(n):
    a = nearest(range(0, n + 1), n)
    return (a, 1, a * a - n)


def taken_by_words(n, triple):
    a, b, k = triple
    return nearest([m for m in range(1, 2 * n + 1) if Fraction(a + m * b, k).denominator == 1], n)


def next_by_words(n, triple):
    a, b, k = triple
    m = taken_by_words(n, triple)
    return (whole(a * m + n * b, abs(k)), whole(a + b * m, abs(k)), whole(m * m - n, k))


def triples_by_words(n, count):
    triples = [first_by_words(n)]
    while len(triples) < count:
        triples.append(next_by_words(n, triples[-1]))
    return triples


def way_by_words(n):
    way = [first_by_words(n)]
    while way[-1][2] != 1:
        way.append(next_by_words(n, way[-1]))
    return way


def least_by_search(n):
    """The least pair without any way: every y is tried from 1 on."""
    y = 1
    while isqrt(n * y * y + 1) ** 2 != n * y * y + 1:
        y += 1
    return [isqrt(n * y * y + 1), y]


def minus_by_search(n):
    """The least pair whose difference is -1, without any way; None if there is none.

    Such a pair put together with itself is one of difference 1, so it lies below the least of those.
    """
    for y in range(1, least_by_search(n)[1]):
        if isqrt(n * y * y - 1) ** 2 == n * y * y - 1:
            return [isqrt(n * y * y - 1), y]
    return None


def longest_by_words(b):
    counts = [(len(way_by_words(n)) - 1, -n) for n in EVERY_N if n <= b]
    return [-max(counts)[1], max(counts)[0]]


def greatest_by_search(b):
    pairs = [(least_by_search(n)[0], -n) for n in EVERY_N if n <= b]
    return [-max(pairs)[1], max(pairs)[0]]
