"""The round way: from triple to triple, until the difference is one.

answers(calls) makes a list of calls on one new object, and gives back for each call, in order,
how many numbers are answered, then these.
"""

BEGIN = 0
STEP = 1
STEPS = 2
TAKEN = 3
FITS = 4
ALL = 5
DIFFS = 6
LEAST = 7
LONG = 8
SHORT = 9
LONGEST = 10
GREATEST = 11
MINUS = 12
AGAIN = 13
DONE = 14
TOLD = 15

# begin, steps, fits, least, long, longest, greatest, minus: each has one number behind its own.
CALLS_WITH_ARGUMENT = (0, 2, 4, 7, 8, 10, 11, 12)

NOT_BEGUN = -11
AT_THE_END = -16
NOT_AS_TOLD = -22
NO_MINUS_ONE = -33

LEAST_N = 2
GREATEST_N = 60
MOST_STEPS = 60
GREATEST_M = 1000
SHORT_DIFFERENCES = (1, -1, 2, -2, 4, -4)


class UnknownCall(ValueError):
    pass


# A triple is never changed once it is made, so that one may stand in several places.
class Triple:
    def __init__(self, a, b, k):
        self.a = a
        self.b = b
        self.k = k


def is_square(number):
    root = 0
    while root * root < number:
        root += 1
    return root * root == number


def is_in_bounds(number):
    return LEAST_N <= number <= GREATEST_N


def is_as_told(n):
    # The bounds stand first, so that no root of a great number is looked for.
    return is_in_bounds(n) and not is_square(n)


# The numbers grow, and only what is truly nearer takes the place: so of like ones the lesser stays.
def nearest_by_square(numbers, n):
    best = numbers[0]
    for number in numbers:
        if abs(number * number - n) < abs(best * best - n):
            best = number
    return best


def first_triple(n):
    a = nearest_by_square(list(range(1, n + 1)), n)
    return Triple(a, 1, a * a - n)


def is_fitting(triple, m):
    return (triple.a + m * triple.b) % triple.k == 0


def number_taken(triple, n):
    fitting = [m for m in range(1, 2 * n + 1) if is_fitting(triple, m)]
    return nearest_by_square(fitting, n)


def next_triple(triple, n):
    m = number_taken(triple, n)
    # The pair stays above 0 whatever the difference's sign; the new difference needs the sign.
    size = abs(triple.k)
    a = (triple.a * m + n * triple.b) // size
    b = (triple.a + triple.b * m) // size
    return Triple(a, b, (m * m - n) // triple.k)


def triple_after(n, j):
    triple = first_triple(n)
    for turn in range(j):
        triple = next_triple(triple, n)
    return triple


def way_of(n):
    triple = first_triple(n)
    way = [triple]
    while triple.k != 1:
        triple = next_triple(triple, n)
        way.append(triple)
    return way


def first_of_differences(way, differences):
    for triple in way:
        if triple.k in differences:
            return triple
    return None


def tell_triple(triple):
    return [0, triple.a, triple.b, triple.k]


def tell_pairs(way):
    numbers = [len(way)]
    for triple in way:
        numbers.append(triple.a)
        numbers.append(triple.b)
    return numbers


def tell_differences(way):
    return [len(way)] + [triple.k for triple in way]


def tell_least(n):
    if not is_as_told(n):
        return [NOT_AS_TOLD]
    last = way_of(n)[-1]
    return [0, last.a, last.b]


def tell_long(n):
    if not is_as_told(n):
        return [NOT_AS_TOLD]
    return [len(way_of(n)) - 1]


def tell_minus(n):
    if not is_as_told(n):
        return [NOT_AS_TOLD]
    found = first_of_differences(way_of(n), (-1,))
    if found is None:
        return [NO_MINUS_ONE]
    return [0, found.a, found.b]


def every_n_up_to(b):
    return [n for n in range(LEAST_N, b + 1) if is_as_told(n)]


# Each row is an n and its measure. The n grow, and only what is truly greater takes the place:
# so of like ones the least stays.
def tell_greatest_row(rows):
    best = rows[0]
    for row in rows:
        if row[1] > best[1]:
            best = row
    return [best[0], best[1]]


def tell_longest(b):
    # b may be a square: only the n that count may not.
    if not is_in_bounds(b):
        return [NOT_AS_TOLD]
    return tell_greatest_row([(n, len(way_of(n)) - 1) for n in every_n_up_to(b)])


def tell_greatest(b):
    if not is_in_bounds(b):
        return [NOT_AS_TOLD]
    return tell_greatest_row([(n, way_of(n)[-1].a) for n in every_n_up_to(b)])


# These calls ask about the number that is handed in, whatever n the object has.
def answer_apart(call, argument):
    if call == LEAST:
        return tell_least(argument)
    if call == LONG:
        return tell_long(argument)
    if call == LONGEST:
        return tell_longest(argument)
    if call == GREATEST:
        return tell_greatest(argument)
    if call == MINUS:
        return tell_minus(argument)
    raise UnknownCall(f"there is no call {call}")


class Walk:
    def __init__(self):
        # No triple is how it's known that no begin was answered 0 yet.
        self.n = 0
        self.triple = None
        self.steps_done = 0

    def begin(self, n):
        if not is_as_told(n):
            return [NOT_AS_TOLD]
        self.n = n
        self.go_to_first()
        return [0]

    def go_to_first(self):
        self.triple = first_triple(self.n)
        self.steps_done = 0

    def take_step(self):
        if self.triple.k == 1:
            return [AT_THE_END]
        self.triple = next_triple(self.triple, self.n)
        self.steps_done += 1
        return tell_triple(self.triple)

    def tell_steps(self, j):
        if j > MOST_STEPS:
            return [NOT_AS_TOLD]
        return tell_triple(triple_after(self.n, j))

    def tell_taken(self):
        m = number_taken(self.triple, self.n)
        return [m, m * m - self.n]

    def tell_fits(self, m):
        if m < 1 or m > GREATEST_M:
            return [NOT_AS_TOLD]
        return [1 if is_fitting(self.triple, m) else 0]

    def tell_short(self):
        return tell_triple(first_of_differences(way_of(self.n), SHORT_DIFFERENCES))

    def walk_again(self):
        self.go_to_first()
        return tell_triple(self.triple)

    def tell_done(self):
        return [1 if self.triple.k == 1 else 0]

    def tell_told(self):
        return [self.n, self.triple.a, self.triple.b, self.triple.k, self.steps_done]

    def answer(self, call, argument):
        if call == BEGIN:
            return self.begin(argument)
        if self.triple is None:
            return [NOT_BEGUN]
        if call == STEP:
            return self.take_step()
        if call == STEPS:
            return self.tell_steps(argument)
        if call == TAKEN:
            return self.tell_taken()
        if call == FITS:
            return self.tell_fits(argument)
        if call == ALL:
            return tell_pairs(way_of(self.n))
        if call == DIFFS:
            return tell_differences(way_of(self.n))
        if call == SHORT:
            return self.tell_short()
        if call == AGAIN:
            return self.walk_again()
        if call == DONE:
            return self.tell_done()
        if call == TOLD:
            return self.tell_told()
        return answer_apart(call, argument)


def answers(calls):
    walk = Walk()
    told = []
    place = 0
    while place < len(calls):
        call = calls[place]
        argument = 0
        place += 1
        if call in CALLS_WITH_ARGUMENT:
            argument = calls[place]
            place += 1
        numbers = walk.answer(call, argument)
        told.append(len(numbers))
        told.extend(numbers)
    return told
