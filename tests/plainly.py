"""The document's words once more, over sets of worlds and with no shortcut; and how the tests speak to the program."""

import functools
import random

from madeconceded.disputations import answers

NUMBERS = {"begin": 0, "propose": 1, "stand": 2, "learn": 3, "stock": 4, "answer": 5, "concede": 6, "deny": 7,
           "may": 8, "counts": 9, "nth": 10, "false": 11, "falsenth": 12, "surely": 13, "from": 14, "least": 15,
           "reach": 16, "reachnth": 17, "stands": 18, "idle": 19, "state": 20}
GREATEST = 4294967295
DENIED, CONCEDED, DOUBTED = 0, 1, 2
FULL = {1: 3, 2: 15, 3: 255}


def told(*calls):
    """Calls such as ("begin", 2, 15, 3) or ("stock", [1, 2]) as the one list that is handed in."""
    numbers = []
    for name, *arguments in calls:
        numbers.append(NUMBERS[name])
        for argument in arguments:
            if isinstance(argument, list):
                numbers.append(len(argument))
                numbers.extend(argument)
            else:
                numbers.append(argument)
    return numbers


def parted(numbers):
    """The list that is given back, as one list for each call."""
    parts = []
    at = 0
    while at < len(numbers):
        end = at + 1 + numbers[at]
        parts.append(numbers[at + 1:end])
        at = end
    if at != len(numbers):
        raise AssertionError("the last answer is shorter than was told")
    return parts


def ask(*calls):
    if len(calls) > 40:
        raise AssertionError("at most 40 calls go into one list")
    parts = parted(answers(told(*calls)))
    if len(parts) != len(calls):
        raise AssertionError("not one answer for each call")
    return parts


def ask_many(beginning, calls):
    """Any number of calls that change nothing, behind the same beginning each time."""
    found = []
    room = 40 - len(beginning)
    for at in range(0, len(calls), room):
        found.extend(ask(*beginning, *calls[at:at + room])[len(beginning):])
    return found


def propositions(letters):
    return range(2 ** 2 ** letters)


@functools.cache
def worlds_of(number):
    return frozenset(w for w in range(8) if number // 2 ** w % 2 == 1)


def number_of(worlds):
    return sum(2 ** w for w in worlds)


def right(known, standing, number):
    proposition = worlds_of(number)
    if standing <= proposition:
        return CONCEDED
    if not standing & proposition:
        return DENIED
    if known <= proposition:
        return CONCEDED
    if not known & proposition:
        return DENIED
    return DOUBTED


def behind(known, standing, number):
    given = right(known, standing, number)
    if given == CONCEDED:
        return standing & worlds_of(number)
    if given == DENIED:
        return standing - worlds_of(number)
    return standing


def first_shortest(letters, known, standing):
    """For each (answer, proposition) the first of the shortest rows, by going through all rows of one and two."""
    found = {}
    for only in propositions(letters):
        found.setdefault((right(known, standing, only), only), [only])
    for first in propositions(letters):
        then = behind(known, standing, first)
        for last in propositions(letters):
            found.setdefault((right(known, then, last), last), [first, last])
    return found


def first_row_to(letters, known, standing, wanted, number):
    """Through all rows of one and of two that end in it, in order; [] if no row, however long, does it."""
    if right(known, standing, number) == wanted:
        return [number]
    for first in propositions(letters):
        if right(known, behind(known, standing, first), number) == wanted:
            return [first, number]
    if number in all_that_can_be_made(letters, known, standing)[wanted]:
        raise AssertionError("two propositions don't do it, but more do")
    return []


@functools.cache
def all_that_can_stand(letters, known, standing):
    """What stands behind all rows whatever: gone on with until no proposition leaves anything new."""
    found = {standing}
    waiting = [standing]
    for one in waiting:
        for number in propositions(letters):
            then = behind(known, one, number)
            if then not in found:
                found.add(then)
                waiting.append(then)
    return waiting


@functools.cache
def all_that_can_be_made(letters, known, standing):
    """For each answer the propositions, rising, that get it behind some row, however long."""
    every = all_that_can_stand(letters, known, standing)
    made = {DENIED: [], CONCEDED: [], DOUBTED: []}
    for number in propositions(letters):
        for given in {right(known, then, number) for then in every}:
            made[given].append(number)
    return made


def all_false(letters, known, standing):
    return [number for number in all_that_can_be_made(letters, known, standing)[CONCEDED]
            if not known & worlds_of(number)]


def rows_of_stock(known, standing, stock):
    """All rows of the stock, the shorter ones first, then by the earlier place; each with what stands behind it.

    What changes something takes a world away at least, and one is left always. So a row that is no shorter than there
    are worlds has a place in it that changes nothing, and leaves what the row without that place leaves.
    """
    rows = [((), standing)]
    yield from rows
    for length in range(1, len(standing)):
        rows = [(row + (place,), behind(known, then, number)) for row, then in rows
                for place, number in enumerate(stock)]
        yield from rows


@functools.cache
def first_rows(known, standing, stock):
    """For each set that can stand by the stock, as a number, the first row that leaves it."""
    found = {}
    for row, then in rows_of_stock(known, standing, stock):
        found.setdefault(number_of(then), list(row))
    for one in found:
        for number in stock:
            if number_of(behind(known, worlds_of(one), number)) not in found:
                raise AssertionError("a longer row leaves something else")
    return found


def first_row_from(known, standing, stock, wanted, number):
    """The first row of the stock behind which the number gets the answer; None if there's none."""
    for row, then in rows_of_stock(known, standing, stock):
        if right(known, then, number) == wanted:
            return list(row)
    return None


def all_idle(known, standing, stock):
    every = [worlds_of(number) for number in first_rows(known, standing, stock)]
    return [place for place, number in enumerate(stock) if all(behind(known, then, number) == then for then in every)]


def least_of(known, standing, stock):
    return min((len(worlds_of(number)), number) for number in first_rows(known, standing, stock))


def all_states(letters):
    some = [worlds_of(number) for number in propositions(letters) if number > 0]
    return [(known, standing) for known in some for standing in some]


def begin(letters, known, standing):
    return ("begin", letters, number_of(known), number_of(standing))


def probe(letters):
    """Calls whose answers are others whenever other worlds are known, or stand."""
    single = [("answer", 2 ** w) for w in range(2 ** letters)]
    return single + [("stand", 2 ** 2 ** letters - 1)] + single


def samples_of_three(many, seed):
    """States of three letters: known worlds and what stands."""
    chosen = random.Random(seed)
    found = []
    while len(found) < many:
        # Few worlds and many of them, so that what stands is now known not to be so, now may be so.
        known = chosen.randint(1, 255) & chosen.choice((255, 15, 240, 85, chosen.randint(1, 255)))
        standing = chosen.randint(1, 255) & chosen.choice((255, 15, 240, 85, chosen.randint(1, 255)))
        if known and standing:
            found.append((worlds_of(known), worlds_of(standing)))
    return found


def some_proposition(chosen, letters, known):
    """Any, or (more often than chance has it) one that's known to be so, or known not to be so."""
    number = chosen.randint(0, FULL[letters])
    return chosen.choice((number, number | known, number & ~known, fine_proposition(chosen, letters, known)))


def fine_proposition(chosen, letters, known):
    """One that takes a single world away, or leaves none but a single one and those that are known."""
    single = 2 ** chosen.choice(sorted(worlds_of(FULL[letters] & ~known)) or [0])
    return chosen.choice((single & ~known, single & ~known, FULL[letters] - single | known, single | known))


def some_stock(chosen, letters, known, many):
    return [some_proposition(chosen, letters, known) for place in range(many)]


def fine_stock(chosen, letters, known, many):
    """One by which long rows are wanted for what a coarser one does in a few."""
    return [fine_proposition(chosen, letters, known) for place in range(many)]


class Plain:
    """All calls, reckoned plainly: no number is kept but those that were handed in, and every row is gone through."""

    def __init__(self):
        self.letters, self.known, self.standing, self.stock = None, None, None, ()

    def answer(self, name, *arguments):
        if name != "begin" and self.letters is None:
            return [-11]
        return getattr(self, "call_" + name)(*arguments)

    def wrong(self, *numbers):
        return any(number not in propositions(self.letters) for number in numbers)

    def call_begin(self, m, k, b):
        if m not in (1, 2, 3) or k > FULL[m] or b > FULL[m] or k == 0:
            return [-22]
        if b == 0:
            return [-33]
        self.letters, self.known, self.standing, self.stock = m, worlds_of(k), worlds_of(b), ()
        return [len(self.standing)]

    def call_propose(self, p):
        if self.wrong(p):
            return [-22]
        given = right(self.known, self.standing, p)
        self.standing = behind(self.known, self.standing, p)
        return [given, len(self.standing)]

    def call_stand(self, b):
        if self.wrong(b):
            return [-22]
        if b == 0:
            return [-33]
        self.standing = worlds_of(b)
        return [len(self.standing)]

    def call_learn(self, k):
        if self.wrong(k):
            return [-22]
        if not self.known & worlds_of(k):
            return [-33]
        self.known = self.known & worlds_of(k)
        return [len(self.known)]

    def call_stock(self, l):
        if self.wrong(*l) or len(l) > 6:
            return [-22]
        self.stock = tuple(l)
        return [len(l)]

    def call_answer(self, p):
        if self.wrong(p):
            return [-22]
        proposition = worlds_of(p)
        bearing = 1 if self.standing <= proposition else 0 if self.standing & proposition else 2
        return [right(self.known, self.standing, p), bearing]

    def row_to(self, wanted, t):
        if self.wrong(t):
            return [-22]
        row = first_row_to(self.letters, self.known, self.standing, wanted, t)
        return [len(row)] + row if row else [-33]

    def call_concede(self, t):
        return self.row_to(CONCEDED, t)

    def call_deny(self, t):
        return self.row_to(DENIED, t)

    def made(self):
        return all_that_can_be_made(self.letters, self.known, self.standing)

    def which(self, t):
        return [given for given, numbers in self.made().items() if t in numbers]

    def call_may(self, t):
        return [-22] if self.wrong(t) else [sum(2 ** given for given in self.which(t))]

    def call_counts(self):
        return [len(self.made()[given]) for given in (CONCEDED, DENIED, DOUBTED)]

    def call_nth(self, a, k):
        return [-22] if a > 2 else [-33] if k >= len(self.made()[a]) else [self.made()[a][k]]

    def call_false(self):
        return [len(all_false(self.letters, self.known, self.standing))]

    def call_falsenth(self, k):
        numbers = all_false(self.letters, self.known, self.standing)
        return [-33] if k >= len(numbers) else [numbers[k]]

    def call_surely(self, a, t):
        return [-22] if a > 2 or self.wrong(t) else [int(self.which(t) == [a])]

    def rows(self):
        return first_rows(self.known, self.standing, self.stock)

    def call_from(self, a, t):
        if a > 2 or self.wrong(t):
            return [-22]
        row = first_row_from(self.known, self.standing, self.stock, a, t)
        return [-33] if row is None else [len(row)] + row

    def call_least(self):
        return list(least_of(self.known, self.standing, self.stock))

    def call_reach(self):
        return [len(self.rows())]

    def call_reachnth(self, k):
        numbers = sorted(self.rows())
        return [-33] if k >= len(numbers) else [numbers[k]]

    def call_stands(self, b):
        if self.wrong(b):
            return [-22]
        row = self.rows().get(b)
        return [-33] if row is None else [len(row)] + row

    def call_idle(self):
        places = all_idle(self.known, self.standing, self.stock)
        return [len(places)] + places

    def call_state(self):
        return [self.letters, number_of(self.known), number_of(self.standing)] + list(self.stock)
