"""The calls on one disputation, told as whole numbers, and their answers."""

from madeconceded.worlds import CONCEDED, DENIED, DOUBTED, MOST_LETTERS
from madeconceded.worlds import all_that_can_be_made, all_worlds, bearing, can_be_made, how_many
from madeconceded.worlds import right_answer, shortest_row, standing_behind

BEGIN = 0
STOCK = 4
MOST_IN_STOCK = 6

# How many whole numbers stand behind each call's number; of the stock it is the length of its list.
LENGTHS = (3, 1, 1, 1, 1, 1, 1, 1, 1, 0, 2, 0, 1, 2, 2, 0, 0, 1, 1, 0, 0)


class NotBegun(Exception):
    pass


class NotRight(Exception):
    pass


class CannotBe(Exception):
    pass


class Disputation:
    def __init__(self):
        # No letters: nothing has begun yet.
        self.letters = 0
        self.known = 0
        self.standing = 0
        self.stock = []


def check_proposition(letters, number):
    if number > all_worlds(letters):
        raise NotRight()


def check_answer(number):
    if number > DOUBTED:
        raise NotRight()


def check_some_world(worlds):
    if worlds == 0:
        raise CannotBe()


def begin(disputation, arguments):
    letters = arguments[0]
    known = arguments[1]
    standing = arguments[2]
    if letters < 1 or letters > MOST_LETTERS:
        raise NotRight()
    check_proposition(letters, known)
    check_proposition(letters, standing)
    if known == 0:
        raise NotRight()
    check_some_world(standing)
    disputation.letters = letters
    disputation.known = known
    disputation.standing = standing
    disputation.stock = []
    return [how_many(standing)]


def propose(disputation, arguments):
    proposition = arguments[0]
    check_proposition(disputation.letters, proposition)
    given = right_answer(disputation.known, disputation.standing, proposition)
    disputation.standing = standing_behind(disputation.known, disputation.standing, proposition)
    return [given, how_many(disputation.standing)]


def stand(disputation, arguments):
    standing = arguments[0]
    check_proposition(disputation.letters, standing)
    check_some_world(standing)
    disputation.standing = standing
    return [how_many(standing)]


def learn(disputation, arguments):
    learnt = arguments[0]
    check_proposition(disputation.letters, learnt)
    known = disputation.known & learnt
    check_some_world(known)
    disputation.known = known
    return [how_many(known)]


def put_stock(disputation, arguments):
    propositions = arguments[1:]
    if len(propositions) > MOST_IN_STOCK:
        raise NotRight()
    for proposition in propositions:
        check_proposition(disputation.letters, proposition)
    disputation.stock = propositions
    return [len(propositions)]


def tell_answer(disputation, arguments):
    proposition = arguments[0]
    check_proposition(disputation.letters, proposition)
    given = right_answer(disputation.known, disputation.standing, proposition)
    return [given, bearing(disputation.standing, proposition)]


def tell_row(disputation, wanted, proposition):
    check_proposition(disputation.letters, proposition)
    row = shortest_row(disputation.letters, disputation.known, disputation.standing, wanted, proposition)
    if len(row) == 0:
        raise CannotBe()
    return [len(row)] + row


def concede(disputation, arguments):
    return tell_row(disputation, CONCEDED, arguments[0])


def deny(disputation, arguments):
    return tell_row(disputation, DENIED, arguments[0])


def may(disputation, arguments):
    proposition = arguments[0]
    check_proposition(disputation.letters, proposition)
    added = 0
    for wanted in (DENIED, CONCEDED, DOUBTED):
        if can_be_made(disputation.known, disputation.standing, wanted, proposition):
            added += 1 << wanted
    return [added]


def those_that_can_be_made(disputation, wanted):
    return all_that_can_be_made(disputation.letters, disputation.known, disputation.standing, wanted)


def counts(disputation, arguments):
    return [len(those_that_can_be_made(disputation, wanted)) for wanted in (CONCEDED, DENIED, DOUBTED)]


def nth(disputation, arguments):
    wanted = arguments[0]
    place = arguments[1]
    check_answer(wanted)
    found = those_that_can_be_made(disputation, wanted)
    if place >= len(found):
        raise CannotBe()
    return [found[place]]


CALLS = (begin, propose, stand, learn, put_stock, tell_answer, concede, deny, may, counts, nth)


def answer_call(disputation, number, arguments):
    if number != BEGIN and disputation.letters == 0:
        raise NotBegun()
    if number >= len(CALLS):
        raise NotImplementedError(f"call {number} is not built yet")
    return CALLS[number](disputation, arguments)


def answer_or_refusal(disputation, number, arguments):
    try:
        return answer_call(disputation, number, arguments)
    except NotBegun:
        return [-11]
    except NotRight:
        return [-22]
    except CannotBe:
        return [-33]


def end_of_call(calls, start):
    end = start + 1 + LENGTHS[calls[start]]
    if calls[start] == STOCK:
        return end + calls[start + 1]
    return end


def answers(calls):
    disputation = Disputation()
    told = []
    start = 0
    while start < len(calls):
        end = end_of_call(calls, start)
        numbers = answer_or_refusal(disputation, calls[start], calls[start + 1:end])
        told.append(len(numbers))
        told.extend(numbers)
        start = end
    return told
