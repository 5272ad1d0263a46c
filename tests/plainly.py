"""The document's words once more, over sets of worlds and with no shortcut; and how the tests speak to the program."""

from madeconceded.disputations import answers

NUMBERS = {"begin": 0, "propose": 1, "stand": 2, "learn": 3, "stock": 4, "answer": 5, "concede": 6, "deny": 7,
           "may": 8, "counts": 9, "nth": 10, "false": 11, "falsenth": 12, "surely": 13, "from": 14, "least": 15,
           "reach": 16, "reachnth": 17, "stands": 18, "idle": 19, "state": 20}
GREATEST = 4294967295
DENIED, CONCEDED, DOUBTED = 0, 1, 2


def told(*calls):
    """Calls such as ("begin", 2, 15, 3) or ("stock", [1, 2]) as the one list that is handed in."""
    numbers = []
    for name, *arguments in calls:
        numbers.append(NUMBERS[name])
        for argument in arguments:
            if isinstance(argument, list):
                numbers.append(len(argument))
                numbers.extend(argument)
            else:
                numbers.append(argument)
    return numbers


def parted(numbers):
    """The list that is given back, as one list for each call."""
    parts = []
    at = 0
    while at < len(numbers):
        end = at + 1 + numbers[at]
        parts.append(numbers[at + 1:end])
        at = end
    if at != len(numbers):
        raise AssertionError("the last answer is shorter than was told")
    return parts


def ask(*calls):
    if len(calls) > 40:
        raise AssertionError("at most 40 calls go into one list")
    parts = parted(answers(told(*calls)))
    if len(parts) != len(calls):
        raise AssertionError("not one answer for each call")
    return parts


def ask_many(beginning, calls):
    """Any number of calls that change nothing, behind the same beginning each time."""
    found = []
    room = 40 - len(beginning)
    for at in range(0, len(calls), room):
        found.extend(ask(*beginning, *calls[at:at + room])[len(beginning):])
    return found


def propositions(letters):
    return range(2 ** 2 ** letters)


def worlds_of(number):
    return frozenset(w for w in range(8) if number // 2 ** w % 2 == 1)


def number_of(worlds):
    return sum(2 ** w for w in worlds)


def right(known, standing, number):
    proposition = worlds_of(number)
    if standing <= proposition:
        return CONCEDED
    if not standing & proposition:
        return DENIED
    if known <= proposition:
        return CONCEDED
    if not known & proposition:
        return DENIED
    return DOUBTED


def behind(known, standing, number):
    given = right(known, standing, number)
    if given == CONCEDED:
        return standing & worlds_of(number)
    if given == DENIED:
        return standing - worlds_of(number)
    return standing


def first_shortest(letters, known, standing):
    """For each (answer, proposition) the first of the shortest rows, by going through all rows of one and two."""
    found = {}
    for only in propositions(letters):
        found.setdefault((right(known, standing, only), only), [only])
    for first in propositions(letters):
        then = behind(known, standing, first)
        for last in propositions(letters):
            found.setdefault((right(known, then, last), last), [first, last])
    return found


def all_that_can_stand(letters, known, standing):
    """What stands behind all rows whatever: gone on with until no proposition leaves anything new."""
    found = [standing]
    for one in found:
        for number in propositions(letters):
            then = behind(known, one, number)
            if then not in found:
                found.append(then)
    return found


def all_that_can_be_made(letters, known, standing):
    """For each answer the propositions, rising, that get it behind some row, however long."""
    every = all_that_can_stand(letters, known, standing)
    return {given: [number for number in propositions(letters)
                    if any(right(known, then, number) == given for then in every)]
            for given in (DENIED, CONCEDED, DOUBTED)}


def all_states(letters):
    some = [worlds_of(number) for number in propositions(letters) if number > 0]
    return [(known, standing) for known in some for standing in some]


def begin(letters, known, standing):
    return ("begin", letters, number_of(known), number_of(standing))


def probe(letters):
    """Calls whose answers are others whenever other worlds are known, or stand."""
    single = [("answer", 2 ** w) for w in range(2 ** letters)]
    return single + [("stand", 2 ** 2 ** letters - 1)] + single
