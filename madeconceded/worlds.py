"""Right answers, what can be made to get them, and what can stand behind rows of a stock.

A set of worlds, and so a proposition, is a whole number in which world w counts 1 << w.
"""

DENIED = 0
CONCEDED = 1
DOUBTED = 2

INDIFFERENT = 0
FOLLOWS = 1
AGAINST = 2

MOST_LETTERS = 3
ALL_WORLDS = (0, 3, 15, 255)


def all_worlds(letters):
    return ALL_WORLDS[letters]


def all_propositions(letters):
    return list(range(all_worlds(letters) + 1))


def how_many(worlds):
    counted = 0
    while worlds > 0:
        counted += worlds & 1
        worlds = worlds >> 1
    return counted


def without(worlds, proposition):
    return worlds ^ (worlds & proposition)


def bearing(standing, proposition):
    if without(standing, proposition) == 0:
        return FOLLOWS
    if (standing & proposition) == 0:
        return AGAINST
    return INDIFFERENT


def right_answer(known, standing, proposition):
    by_standing = bearing(standing, proposition)
    # What stands goes ahead of what is known, even where they are at odds.
    relation = bearing(known, proposition) if by_standing == INDIFFERENT else by_standing
    if relation == FOLLOWS:
        return CONCEDED
    if relation == AGAINST:
        return DENIED
    return DOUBTED


def standing_behind(known, standing, proposition):
    given = right_answer(known, standing, proposition)
    if given == CONCEDED:
        return standing & proposition
    if given == DENIED:
        return without(standing, proposition)
    return standing


def can_be_made(known, standing, wanted, proposition):
    # No row takes away a known world that stands: so each of them must agree with the wanted answer.
    real = standing & known
    if wanted == CONCEDED:
        return (standing & proposition) != 0 and without(real, proposition) == 0
    if wanted == DENIED:
        return without(standing, proposition) != 0 and (real & proposition) == 0
    # A row only ever makes what stands less, so what it leaves in doubt is in doubt without it.
    return right_answer(known, standing, proposition) == DOUBTED


def all_that_can_be_made(letters, known, standing, wanted):
    every = all_propositions(letters)
    return [proposition for proposition in every if can_be_made(known, standing, wanted, proposition)]


def shortest_row(letters, known, standing, wanted, proposition):
    if right_answer(known, standing, proposition) == wanted:
        return [proposition]
    # Two are enough: "what is known, or this" leaves of what stands just where this is so; likewise with its contrary.
    for first in all_propositions(letters):
        behind = standing_behind(known, standing, first)
        if right_answer(known, behind, proposition) == wanted:
            return [first, proposition]
    return []


def rows_of_stock(known, standing, stock):
    # Shorter rows go first, of like ones the earlier place: so the first row to leave a set is the one to be told for
    # it, and the sets come in the order of these rows.
    rows = {standing: []}
    waiting = [standing]
    at = 0
    while at < len(waiting):
        before = waiting[at]
        for place in range(len(stock)):
            behind = standing_behind(known, before, stock[place])
            if behind not in rows:
                rows[behind] = rows[before] + [place]
                waiting.append(behind)
        at += 1
    return rows


def fewest_worlds(standings):
    # min keeps to the first of like ones: rising, that is the lesser number.
    return min(sorted(standings), key=how_many)


def changes_something(known, standings, proposition):
    for standing in standings:
        if standing_behind(known, standing, proposition) != standing:
            return True
    return False
