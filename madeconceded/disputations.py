"""The calls on one disputation, told as whole numbers, and their answers."""

from madeconceded.worlds import AGAINST, CONCEDED, DENIED, DOUBTED, MOST_LETTERS
from madeconceded.worlds import all_that_can_be_made, all_worlds, bearing, can_be_made, changes_something
from madeconceded.worlds import fewest_worlds, how_many, right_answer, rows_of_stock, shortest_row, standing_behind

BEGIN = 0
STOCK = 4
MOST_IN_STOCK = 6

# How many whole numbers stand behind each call's number; of the stock it is the length of its list.
LENGTHS = (3, 1, 1, 1, 1, 1, 1, 1, 1, 0, 2, 0, 1, 2, 2, 0, 0, 1, 1, 0, 0)


class NotBegun(Exception):
    pass


class NotRight(Exception):
    pass


class CannotBe(Exception):
    pass


class Disputation:
    def __init__(self):
        # No letters: nothing has begun yet.
        self.letters = 0
        self.known = 0
        self.standing = 0
        self.stock = []


def check_proposition(letters, number):
    if number > all_worlds(letters):
        raise NotRight()


def check_answer(number):
    if number > DOUBTED:
        raise NotRight()


def check_some_world(worlds):
    if worlds == 0:
        raise CannotBe()


def begin(disputation, arguments):
    letters = arguments[0]
    known = arguments[1]
    standing = arguments[2]
    if letters < 1 or letters > MOST_LETTERS:
        raise NotRight()
    check_proposition(letters, known)
    check_proposition(letters, standing)
    if known == 0:
        raise NotRight()
    check_some_world(standing)
    disputation.letters = letters
    disputation.known = known
    disputation.standing = standing
    disputation.stock = []
    return [how_many(standing)]


def propose(disputation, arguments):
    proposition = arguments[0]
    check_proposition(disputation.letters, proposition)
    given = right_answer(disputation.known, disputation.standing, proposition)
    disputation.standing = standing_behind(disputation.known, disputation.standing, proposition)
    return [given, how_many(disputation.standing)]


def stand(disputation, arguments):
    standing = arguments[0]
    check_proposition(disputation.letters, standing)
    check_some_world(standing)
    disputation.standing = standing
    return [how_many(standing)]


def learn(disputation, arguments):
    learnt = arguments[0]
    check_proposition(disputation.letters, learnt)
    known = disputation.known & learnt
    check_some_world(known)
    disputation.known = known
    return [how_many(known)]


def put_stock(disputation, arguments):
    propositions = arguments[1:]
    if len(propositions) > MOST_IN_STOCK:
        raise NotRight()
    for proposition in propositions:
        check_proposition(disputation.letters, proposition)
    disputation.stock = propositions
    return [len(propositions)]


def tell_answer(disputation, arguments):
    proposition = arguments[0]
    check_proposition(disputation.letters, proposition)
    given = right_answer(disputation.known, disputation.standing, proposition)
    return [given, bearing(disputation.standing, proposition)]


def tell_row(disputation, wanted, proposition):
    check_proposition(disputation.letters, proposition)
    row = shortest_row(disputation.letters, disputation.known, disputation.standing, wanted, proposition)
    if len(row) == 0:
        raise CannotBe()
    return [len(row)] + row


def concede(disputation, arguments):
    return tell_row(disputation, CONCEDED, arguments[0])


def deny(disputation, arguments):
    return tell_row(disputation, DENIED, arguments[0])


def added_answers(disputation, proposition):
    added = 0
    for wanted in (DENIED, CONCEDED, DOUBTED):
        if can_be_made(disputation.known, disputation.standing, wanted, proposition):
            added += 1 << wanted
    return added


def may(disputation, arguments):
    proposition = arguments[0]
    check_proposition(disputation.letters, proposition)
    return [added_answers(disputation, proposition)]


def those_that_can_be_made(disputation, wanted):
    return all_that_can_be_made(disputation.letters, disputation.known, disputation.standing, wanted)


def counts(disputation, arguments):
    return [len(those_that_can_be_made(disputation, wanted)) for wanted in (CONCEDED, DENIED, DOUBTED)]


def pick(found, place):
    if place >= len(found):
        raise CannotBe()
    return [found[place]]


def nth(disputation, arguments):
    check_answer(arguments[0])
    return pick(those_that_can_be_made(disputation, arguments[0]), arguments[1])


def false_that_can_be_conceded(disputation):
    found = those_that_can_be_made(disputation, CONCEDED)
    return [proposition for proposition in found if bearing(disputation.known, proposition) == AGAINST]


def count_false(disputation, arguments):
    return [len(false_that_can_be_conceded(disputation))]


def nth_false(disputation, arguments):
    return pick(false_that_can_be_conceded(disputation), arguments[0])


def surely(disputation, arguments):
    wanted = arguments[0]
    proposition = arguments[1]
    check_answer(wanted)
    check_proposition(disputation.letters, proposition)
    return [1 if added_answers(disputation, proposition) == (1 << wanted) else 0]


def rows_to_standings(disputation):
    return rows_of_stock(disputation.known, disputation.standing, disputation.stock)


def row_from_stock(disputation, arguments):
    wanted = arguments[0]
    proposition = arguments[1]
    check_answer(wanted)
    check_proposition(disputation.letters, proposition)
    rows = rows_to_standings(disputation)
    for standing in rows:
        if right_answer(disputation.known, standing, proposition) == wanted:
            return [len(rows[standing])] + rows[standing]
    raise CannotBe()


def least(disputation, arguments):
    fewest = fewest_worlds(rows_to_standings(disputation))
    return [how_many(fewest), fewest]


def count_reach(disputation, arguments):
    return [len(rows_to_standings(disputation))]


def nth_reach(disputation, arguments):
    return pick(sorted(rows_to_standings(disputation)), arguments[0])


def row_that_leaves(disputation, arguments):
    standing = arguments[0]
    check_proposition(disputation.letters, standing)
    rows = rows_to_standings(disputation)
    if standing not in rows:
        raise CannotBe()
    return [len(rows[standing])] + rows[standing]


def idle(disputation, arguments):
    stock = disputation.stock
    rows = rows_to_standings(disputation)
    places = [place for place in range(len(stock)) if not changes_something(disputation.known, rows, stock[place])]
    return [len(places)] + places


def state(disputation, arguments):
    return [disputation.letters, disputation.known, disputation.standing] + disputation.stock


CALLS = (begin, propose, stand, learn, put_stock, tell_answer, concede, deny, may, counts, nth, count_false, nth_false,
         surely, row_from_stock, least, count_reach, nth_reach, row_that_leaves, idle, state)


def answer_call(disputation, number, arguments):
    if number != BEGIN and disputation.letters == 0:
        raise NotBegun()
    return CALLS[number](disputation, arguments)


def answer_or_refusal(disputation, number, arguments):
    try:
        return answer_call(disputation, number, arguments)
    except NotBegun:
        return [-11]
    except NotRight:
        return [-22]
    except CannotBe:
        return [-33]


def end_of_call(calls, start):
    end = start + 1 + LENGTHS[calls[start]]
    if calls[start] == STOCK:
        return end + calls[start + 1]
    return end


def answers(calls):
    disputation = Disputation()
    told = []
    start = 0
    while start < len(calls):
        end = end_of_call(calls, start)
        numbers = answer_or_refusal(disputation, calls[start], calls[start + 1:end])
        told.append(len(numbers))
        told.extend(numbers)
        start = end
    return told
