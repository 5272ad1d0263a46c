"""Point 3: from, least, reach, reachnth, stands, idle."""

import itertools
import random
import unittest

from tests.plainly import CONCEDED, DENIED, DOUBTED, FULL, GREATEST, all_idle, all_states, ask, ask_many, begin, behind
from tests.plainly import fine_stock, first_rows, least_of, number_of, propositions, right, rows_of_stock
from tests.plainly import samples_of_three, some_stock, worlds_of

ANSWERS = (DENIED, CONCEDED, DOUBTED)


def with_some_alike(chosen, stock):
    """The same stock, but for one or more places that hold what another one holds."""
    alike = list(stock)
    for turn in range(len(stock) // 2):
        alike[chosen.randrange(len(stock))] = chosen.choice(stock)
    return alike


def stocks(chosen, letters, known):
    """Of 0, 1, 3 and 6 propositions, among them some alike."""
    three = some_stock(chosen, letters, known, 3)
    six = some_stock(chosen, letters, known, 6)
    fine = fine_stock(chosen, letters, known, 6)
    return [[], some_stock(chosen, letters, known, 1), three, with_some_alike(chosen, three), six,
            with_some_alike(chosen, six), fine, fine[:3]]


def cases_of_one_letter():
    """Each state with each stock of at most three, and with some of six."""
    chosen = random.Random(11)
    for known, standing in all_states(1):
        for many in (0, 1, 2, 3):
            for stock in itertools.product(range(4), repeat=many):
                yield 1, known, standing, list(stock)
        for stock in stocks(chosen, 1, number_of(known)):
            yield 1, known, standing, stock


def cases_of_two_letters(seed):
    chosen = random.Random(seed)
    for known, standing in all_states(2):
        for stock in stocks(chosen, 2, number_of(known)):
            yield 2, known, standing, stock
        # Where one world is known and three others stand, rows get long.
        for turn in range(10 if len(known) == 1 and len(standing) > 2 else 0):
            yield 2, known, standing, fine_stock(chosen, 2, number_of(known), chosen.choice((3, 6)))


def cases_of_three_letters(many, seed):
    chosen = random.Random(seed)
    # Where few worlds are known and many stand, rows get long.
    long = [(worlds_of(2 ** chosen.randrange(8)), worlds_of(chosen.randint(1, 255))) for turn in range(many // 2)]
    for known, standing in samples_of_three(many - many // 2, seed) + long:
        for stock in stocks(chosen, 3, number_of(known)):
            yield 3, known, standing, stock


def opening(letters, known, standing, stock):
    return [begin(letters, known, standing), ("stock", stock)]


def told_row(row):
    return [-33] if row is None else [len(row)] + row


class From(unittest.TestCase):
    def hold(self, letters, known, standing, stock, numbers):
        first = {}
        for row, then in rows_of_stock(known, standing, stock):
            for number in numbers:
                first.setdefault((right(known, then, number), number), list(row))
        pairs = [(wanted, number) for wanted in ANSWERS for number in numbers]
        found = ask_many(opening(letters, known, standing, stock), [("from", *pair) for pair in pairs])
        self.assertEqual(found, [told_row(first.get(pair)) for pair in pairs])

    def test_all_rows_of_one_letter(self):
        for case in cases_of_one_letter():
            self.hold(*case, propositions(1))

    def test_all_rows_of_two_letters(self):
        for case in cases_of_two_letters(21):
            self.hold(*case, propositions(2))

    def test_all_rows_of_samples_of_three_letters(self):
        chosen = random.Random(31)
        for letters, known, standing, stock in cases_of_three_letters(60, 31):
            # All that is in the stock, and single worlds, which rows get conceded that leave nothing else.
            numbers = stock + [2 ** w for w in sorted(standing)][:2] + chosen.sample(range(256), 3)
            if len(standing) < 7:
                self.hold(letters, known, standing, stock, numbers)

    def test_the_row_told_does_it_when_it_is_proposed(self):
        chosen = random.Random(41)
        longest = 0
        for letters, known, standing, stock in cases_of_three_letters(150, 41):
            start = opening(letters, known, standing, stock)
            pairs = [(wanted, chosen.randint(0, 255)) for wanted in ANSWERS for turn in range(4)]
            pairs += [(CONCEDED, 2 ** w) for w in standing]
            for pair, got in zip(pairs, ask_many(start, [("from", *pair) for pair in pairs])):
                if got != [-33]:
                    self.assertEqual(got[0], len(got) - 1)
                    proposed = [("propose", stock[place]) for place in got[1:]]
                    self.assertEqual(ask(*start, *proposed, ("answer", pair[1]))[-1][0], pair[0])
                    longest = max(longest, got[0])
        self.assertGreaterEqual(longest, 3)

    def test_no_shorter_row_does_it(self):
        chosen = random.Random(51)
        seen = 0
        for letters, known, standing, stock in cases_of_three_letters(60, 51):
            start = opening(letters, known, standing, stock)
            pairs = [(wanted, chosen.randint(0, 255)) for wanted in ANSWERS for turn in range(4)]
            for pair, got in zip(pairs, ask_many(start, [("from", *pair) for pair in pairs])):
                if got != [-33] and got[0] > 0:
                    seen += 1
                    for shorter in itertools.product(stock, repeat=got[0] - 1):
                        then = standing
                        for number in shorter:
                            then = behind(known, then, number)
                        self.assertNotEqual(right(known, then, pair[1]), pair[0])
        self.assertGreater(seen, 20)

    def test_the_empty_row(self):
        # What is right at once is told with 0 alone, whatever the stock has.
        for letters, known, standing, stock in itertools.chain(cases_of_one_letter(), cases_of_two_letters(61),
                                                               cases_of_three_letters(20, 61)):
            numbers = list(propositions(letters))[::1 if letters < 3 else 29]
            found = ask_many(opening(letters, known, standing, stock),
                             [("from", right(known, standing, number), number) for number in numbers])
            self.assertEqual(found, [[0]] * len(numbers))

    def test_an_empty_stock(self):
        self.assertEqual(ask(("begin", 2, 3, 12), ("from", 1, 12), ("from", 0, 12), ("from", 1, 4), ("from", 0, 4),
                             ("from", 2, 5), ("from", 1, 5))[1:], [[0], [-33], [-33], [0], [0], [-33]])

    def test_ordinary_ones(self):
        # One letter: world 0 is known, both stand; 1 is known to be so.
        self.assertEqual(ask(("begin", 1, 1, 3), ("stock", [1]), ("from", 1, 1), ("from", 0, 2), ("from", 1, 2),
                             ("stand", 2), ("from", 1, 2))[2:], [[0], [0], [-33], [1], [0]])
        # Two letters: 7 leaves world 2, 11 leaves world 3; whichever comes first makes the other denied.
        self.assertEqual(ask(("begin", 2, 3, 12), ("stock", [7, 11]), ("from", 1, 4), ("from", 1, 8), ("from", 0, 7),
                             ("from", 0, 11), ("from", 1, 3))[2:], [[1, 0], [1, 1], [1, 1], [1, 0], [-33]])
        # Three letters: each takes one world away, and all but world 4 must go.
        self.assertEqual(ask(("begin", 3, 1, 240), ("stock", [32, 64, 128]), ("from", 1, 16), ("from", 1, 48),
                             ("from", 1, 80), ("from", 1, 15))[2:], [[3, 0, 1, 2], [2, 1, 2], [2, 0, 2], [-33]])

    def test_of_several_the_earlier_place_where_they_first_differ(self):
        # Two places that hold the same; and two that may go in either order.
        self.assertEqual(ask(("begin", 2, 3, 12), ("stock", [5, 7, 7]), ("from", 1, 4))[2], [1, 1])
        self.assertEqual(ask(("begin", 3, 1, 112), ("stock", [64, 5, 32]), ("from", 1, 16))[2], [2, 0, 2])
        # [0, 2] and [1, 2] leave world 4 alone: the row that begins with place 0 is told, though 1 takes away more.
        self.assertEqual(ask(("begin", 3, 1, 112), ("stock", [32, 97, 64]), ("from", 1, 16))[2], [2, 0, 2])

    def test_the_shorter_goes_ahead_of_the_earlier(self):
        self.assertEqual(ask(("begin", 3, 1, 112), ("stock", [32, 64, 31]), ("from", 1, 16))[2], [1, 2])

    def test_a_proposition_may_be_had_again(self):
        # A place that was proposed and changed something changes nothing more: it's asked as t, behind itself.
        self.assertEqual(ask(("begin", 2, 3, 12), ("stock", [4]), ("from", 0, 4), ("from", 1, 4), ("from", 1, 8))[2:],
                         [[0], [-33], [1, 0]])

    def test_one_that_is_known_but_against_it(self):
        self.assertEqual(ask(("begin", 2, 12, 3), ("stock", [12, 13]), ("from", 1, 12), ("from", 0, 12),
                             ("from", 1, 13), ("from", 1, 1))[2:], [[-33], [0], [0], [1, 1]])

    def test_what_is_learnt_between(self):
        found = ask(("begin", 2, 15, 15), ("stock", [5]), ("from", 1, 5), ("from", 2, 5), ("learn", 5), ("from", 1, 5),
                    ("from", 0, 10), ("from", 2, 1), ("from", 0, 2), ("learn", 1), ("from", 1, 1), ("from", 1, 4))
        self.assertEqual(found[2:], [[-33], [0], [2], [0], [0], [0], [0], [1], [0], [-33]])

    def test_refusals(self):
        for letters, full in FULL.items():
            start = [("begin", letters, 1, 2), ("stock", [1, 0, full])]
            for wanted, number in ((3, 0), (3, full), (GREATEST, 0), (0, full + 1), (1, full + 1), (2, full + 1),
                                   (2, 256), (1, 2147483648), (0, GREATEST), (3, full + 1), (GREATEST, GREATEST)):
                self.assertEqual(ask(*start, ("from", wanted, number))[2], [-22])
            self.assertEqual(ask(*start, ("from", 1, 0), ("from", 0, full), ("from", 2, 0))[2:], [[-33]] * 3)


class Stands(unittest.TestCase):
    def hold(self, letters, known, standing, stock):
        rows = first_rows(known, standing, tuple(stock))
        found = ask_many(opening(letters, known, standing, stock), [("stands", b) for b in propositions(letters)])
        self.assertEqual(found, [told_row(rows.get(b)) for b in propositions(letters)])

    def test_all_rows_of_one_letter(self):
        for case in cases_of_one_letter():
            self.hold(*case)

    def test_all_rows_of_two_letters(self):
        for case in cases_of_two_letters(22):
            self.hold(*case)

    def test_all_rows_of_samples_of_three_letters(self):
        for letters, known, standing, stock in cases_of_three_letters(80, 32):
            if len(standing) < 7:
                self.hold(letters, known, standing, stock)

    def test_all_rows_where_all_eight_worlds_stand(self):
        for known, stock in ((1, [127, 191, 128, 223, 8, 4]), (2, [254, 251, 16, 16, 247, 8])):
            self.hold(3, worlds_of(known), worlds_of(255), stock)

    def test_the_row_told_leaves_just_that(self):
        longest = 0
        for letters, known, standing, stock in cases_of_three_letters(300, 42):
            start = opening(letters, known, standing, stock)
            subsets = [b for b in propositions(3) if b | number_of(standing) == number_of(standing)]
            for b, got in zip(subsets, ask_many(start, [("stands", b) for b in subsets])):
                if got != [-33]:
                    self.assertEqual(got[0], len(got) - 1)
                    proposed = [("propose", stock[place]) for place in got[1:]]
                    self.assertEqual(ask(*start, *proposed, ("state",))[-1][2], b)
                    longest = max(longest, got[0])
        self.assertGreaterEqual(longest, 4)

    def test_what_stands_already(self):
        for letters, known, standing, stock in itertools.chain(cases_of_one_letter(), cases_of_two_letters(62),
                                                               cases_of_three_letters(20, 62)):
            found = ask(*opening(letters, known, standing, stock), ("stands", number_of(standing)))
            self.assertEqual(found[2], [0])

    def test_ordinary_ones(self):
        self.assertEqual(ask(("begin", 1, 1, 3), ("stock", [1]), ("stands", 3), ("stands", 1), ("stands", 2))[2:],
                         [[0], [1, 0], [-33]])
        self.assertEqual(ask(("begin", 2, 3, 12), ("stock", [7, 11]), ("stands", 4), ("stands", 8), ("stands", 12),
                             ("stands", 15), ("stands", 3))[2:], [[1, 0], [1, 1], [0], [-33], [-33]])
        self.assertEqual(ask(("begin", 3, 1, 240), ("stock", [32, 64, 128]), ("stands", 16), ("stands", 80),
                             ("stands", 112), ("stands", 32), ("stands", 96))[2:],
                         [[3, 0, 1, 2], [2, 0, 2], [1, 2], [-33], [-33]])

    def test_of_several_the_earlier_place_where_they_first_differ(self):
        self.assertEqual(ask(("begin", 2, 3, 12), ("stock", [5, 7, 7]), ("stands", 4))[2], [1, 1])
        self.assertEqual(ask(("begin", 3, 1, 112), ("stock", [64, 5, 32]), ("stands", 16))[2], [2, 0, 2])
        self.assertEqual(ask(("begin", 3, 1, 112), ("stock", [32, 64, 31]), ("stands", 16))[2], [1, 2])

    def test_an_empty_stock(self):
        for letters, full in FULL.items():
            found = ask(("begin", letters, 1, 2), ("stands", 2), ("stands", 1), ("stands", full), ("stands", 0))
            self.assertEqual(found[1:], [[0], [-33], [-33], [-33]])

    def test_what_is_learnt_between(self):
        self.assertEqual(ask(("begin", 2, 15, 15), ("stock", [5]), ("stands", 5), ("learn", 5), ("stands", 5),
                             ("propose", 5), ("stands", 5), ("stands", 15))[2:],
                         [[-33], [2], [1, 0], [1, 2], [0], [-33]])

    def test_refusals(self):
        for letters, full in FULL.items():
            start = [("begin", letters, 1, 2), ("stock", [1, 0, full])]
            for b in (full + 1, 256, 2147483648, GREATEST):
                self.assertEqual(ask(*start, ("stands", b))[2], [-22])
            # That nothing stands can't be; it isn't wrong.
            self.assertEqual(ask(*start, ("stands", 0), ("stands", full), ("stands", 1))[2:], [[-33]] * 3)


class LeastReachIdle(unittest.TestCase):
    def hold(self, letters, known, standing, stock):
        rows = sorted(first_rows(known, standing, tuple(stock)))
        places = all_idle(known, standing, tuple(stock))
        found = ask_many(opening(letters, known, standing, stock),
                         [("least",), ("reach",), ("idle",)] + [("reachnth", k) for k in range(len(rows) + 2)])
        self.assertEqual(found[0], list(least_of(known, standing, tuple(stock))))
        self.assertEqual(found[1], [len(rows)])
        self.assertEqual(found[2], [len(places)] + places)
        self.assertEqual(found[3:], [[number] for number in rows] + [[-33], [-33]])

    def test_all_rows_of_one_letter(self):
        for case in cases_of_one_letter():
            self.hold(*case)

    def test_all_rows_of_two_letters(self):
        for case in cases_of_two_letters(23):
            self.hold(*case)

    def test_all_rows_of_samples_of_three_letters(self):
        for letters, known, standing, stock in cases_of_three_letters(80, 33):
            if len(standing) < 7:
                self.hold(letters, known, standing, stock)

    def test_where_many_can_stand(self):
        self.hold(3, worlds_of(1), worlds_of(254), [2, 4, 8, 16, 32, 64])
        self.hold(3, worlds_of(1), worlds_of(255), [3, 5, 9, 17, 33, 65])
        self.assertEqual(ask(("begin", 3, 1, 254), ("stock", [2, 4, 8, 16, 32, 64]), ("reach",), ("least",),
                             ("reachnth", 0), ("reachnth", 63), ("reachnth", 64))[2:],
                         [[64], [1, 128], [128], [254], [-33]])

    def test_ordinary_ones(self):
        self.assertEqual(ask(("begin", 1, 1, 3), ("stock", [1, 3]), ("least",), ("reach",), ("reachnth", 0),
                             ("reachnth", 1), ("reachnth", 2), ("idle",))[2:],
                         [[1, 1], [2], [1], [3], [-33], [1, 1]])
        # 5 is doubted for as long as it matters; 7 and 11 take a world away each.
        self.assertEqual(ask(("begin", 2, 3, 12), ("stock", [5, 7, 11]), ("least",), ("reach",), ("reachnth", 0),
                             ("reachnth", 1), ("reachnth", 2), ("reachnth", 3), ("idle",))[2:],
                         [[1, 4], [3], [4], [8], [12], [-33], [1, 0]])
        self.assertEqual(ask(("begin", 3, 1, 240), ("stock", [32, 15, 64, 255, 0]), ("least",), ("reach",),
                             ("reachnth", 0), ("reachnth", 1), ("reachnth", 2), ("reachnth", 3), ("idle",))[2:],
                         [[2, 144], [4], [144], [176], [208], [240], [3, 1, 3, 4]])

    def test_of_sets_with_equally_few_worlds_the_lesser_number(self):
        # Whichever comes first of the row, 4 is told: by the stock in this order 8 is found first.
        for stock in ([7, 11], [11, 7], [11, 5, 7]):
            self.assertEqual(ask(("begin", 2, 3, 12), ("stock", stock), ("least",))[2], [1, 4])
        # Three worlds, each of which can be left alone; and pairs, of which one world can't be taken away.
        self.assertEqual(ask(("begin", 3, 1, 112), ("stock", [65, 33, 17]), ("least",), ("reach",))[2:],
                         [[1, 16], [4]])
        self.assertEqual(ask(("begin", 3, 1, 240), ("stock", [193, 49]), ("least",), ("reach",), ("stand", 248),
                             ("least",))[2:], [[2, 48], [3], [5], [2, 48]])

    def test_fewer_worlds_go_ahead_of_the_lesser_number(self):
        self.assertEqual(ask(("begin", 3, 1, 112), ("stock", [65, 49]), ("least",), ("reachnth", 0))[2:],
                         [[1, 64], [48]])

    def test_an_empty_stock(self):
        for letters, full in FULL.items():
            for standing in (1, 2, full):
                many = len(worlds_of(standing))
                for start in ([("begin", letters, 1, standing)], [("begin", letters, 1, standing), ("stock", [])]):
                    self.assertEqual(ask(*start, ("least",), ("reach",), ("reachnth", 0), ("reachnth", 1),
                                         ("idle",))[len(start):], [[many, standing], [1], [standing], [-33], [0]])

    def test_the_same_proposition_twice(self):
        # The second of them changes something where the first wasn't proposed: neither is idle.
        self.assertEqual(ask(("begin", 2, 3, 12), ("stock", [7, 7]), ("least",), ("reach",), ("idle",))[2:],
                         [[1, 4], [2], [0]])
        self.assertEqual(ask(("begin", 2, 3, 12), ("stock", [5, 7, 5]), ("idle",))[2], [2, 0, 2])

    def test_a_stock_of_which_nothing_matters(self):
        # So always, never, what follows, what's against it, and what is doubted.
        self.assertEqual(ask(("begin", 2, 3, 12), ("stock", [15, 0, 12, 3, 5, 10]), ("least",), ("reach",),
                             ("reachnth", 0), ("idle",), ("from", 1, 4), ("stands", 4))[2:],
                         [[2, 12], [1], [12], [6, 0, 1, 2, 3, 4, 5], [-33], [-33]])

    def test_one_world_that_stands(self):
        for number in (0, 1, 64, 128, 127, 255):
            self.assertEqual(ask(("begin", 3, 1, 64), ("stock", [number, number]), ("least",), ("reach",),
                                 ("idle",))[2:], [[1, 64], [1], [2, 0, 1]])

    def test_one_that_changes_something_behind_another_alone_or_without_it_alone_is_not_idle(self):
        # 49 leaves worlds 4 and 5 of 4 to 6; 33 leaves world 5; each matters at once. Behind 65 neither does.
        self.assertEqual(ask(("begin", 3, 1, 112), ("stock", [65, 49, 33]), ("idle",), ("propose", 65), ("idle",))[2:],
                         [[0], [1, 1], [3, 0, 1, 2]])

    def test_what_is_learnt_between(self):
        self.assertEqual(ask(("begin", 2, 15, 15), ("stock", [5, 3]), ("least",), ("reach",), ("idle",), ("learn", 5),
                             ("least",), ("reach",), ("idle",), ("learn", 1), ("least",), ("reach",), ("idle",))[2:],
                         [[4, 15], [1], [2, 0, 1], [2], [2, 5], [2], [1, 1], [1], [1, 1], [4], [0]])

    def test_what_stands_known_not_to_be_so_and_what_may_be_so(self):
        # All known worlds that stand are left always.
        for letters, known, standing, stock in itertools.chain(cases_of_two_letters(24),
                                                               cases_of_three_letters(40, 34)):
            found = ask(*opening(letters, known, standing, stock), ("least",))[2]
            self.assertGreaterEqual(found[0], 1)
            self.assertEqual(found[1] & number_of(known), number_of(standing & known))

    def test_reachnth_refusals(self):
        for letters, full in FULL.items():
            start = [("begin", letters, 1, 3), ("stock", [1, 1])]
            for place in (2, full, full + 1, 256, 2147483648, GREATEST):
                self.assertEqual(ask(*start, ("reachnth", place))[2], [-33])
            self.assertEqual(ask(*start, ("reachnth", 0), ("reachnth", 1))[2:], [[1], [3]])


class NothingChanges(unittest.TestCase):
    def test_answers_and_refusals(self):
        for letters, full in FULL.items():
            for known, standing in ((1, 3), (3, 2), (2, 1), (1, full - 1)):
                start = [("begin", letters, known, standing), ("stock", [1, full, 1, 2])]
                for call in (("from", 1, 1), ("from", 0, 1), ("from", 2, 1), ("from", 1, 0), ("from", 3, 0),
                             ("from", 1, full + 1), ("from", GREATEST, GREATEST), ("least",), ("reach",),
                             ("reachnth", 0), ("reachnth", 1), ("reachnth", GREATEST), ("stands", 1),
                             ("stands", standing), ("stands", 0), ("stands", full + 1), ("stands", GREATEST),
                             ("idle",), ("state",)):
                    found = ask(*start, ("state",), call, ("state",))
                    self.assertEqual(found[2], [letters, known, standing, 1, full, 1, 2])
                    self.assertEqual(found[4], found[2])


if __name__ == "__main__":
    unittest.main()
