"""Point 2: concede, deny, may, counts, nth, false, falsenth, surely."""

import random
import unittest

from tests.plainly import CONCEDED, DENIED, DOUBTED, FULL, GREATEST, all_false, all_states, all_that_can_be_made, ask
from tests.plainly import ask_many, begin, first_row_to, first_shortest, number_of, probe, propositions
from tests.plainly import samples_of_three, worlds_of

NAMES = {CONCEDED: "concede", DENIED: "deny"}


class ConcedeAndDeny(unittest.TestCase):
    def test_the_first_of_the_shortest_for_one_and_two_letters(self):
        for letters in (1, 2):
            for known, standing in all_states(letters):
                rows = first_shortest(letters, known, standing)
                for wanted, name in NAMES.items():
                    found = ask_many([begin(letters, known, standing)],
                                     [(name, number) for number in propositions(letters)])
                    for number in propositions(letters):
                        row = rows.get((wanted, number))
                        self.assertEqual(found[number], [-33] if row is None else [len(row)] + row)

    def test_the_first_of_the_shortest_for_samples_of_three_letters(self):
        chosen = random.Random(3)
        for known, standing in samples_of_three(60, 1):
            for wanted, name in NAMES.items():
                numbers = chosen.sample(range(256), 12)
                found = ask_many([begin(3, known, standing)], [(name, number) for number in numbers])
                for number, got in zip(numbers, found):
                    row = first_row_to(3, known, standing, wanted, number)
                    self.assertEqual(got, [len(row)] + row if row else [-33])

    def test_the_row_told_is_answered_so_when_it_is_proposed(self):
        states = [(1, state) for state in all_states(1)] + [(2, state) for state in all_states(2)]
        states += [(3, state) for state in samples_of_three(60, 2)]
        for letters, (known, standing) in states:
            start = begin(letters, known, standing)
            for wanted, name in NAMES.items():
                targets = list(propositions(letters))[::1 if letters < 3 else 23]
                for got in ask_many([start], [(name, number) for number in targets]):
                    if got != [-33]:
                        self.assertEqual(got[0], len(got) - 1)
                        self.assertIn(got[0], (1, 2))
                        found = ask(start, *[("propose", number) for number in got[1:]])
                        self.assertEqual(found[-1][0], wanted)

    def test_ordinary_ones(self):
        # Known are worlds 0 and 1, worlds 2 and 3 stand: 7 leaves world 2 of them, and so 4 follows.
        self.assertEqual(ask(("begin", 2, 3, 12), ("concede", 4), ("deny", 4), ("concede", 8), ("deny", 3))[1:],
                         [[2, 7, 4], [1, 4], [2, 4, 8], [1, 3]])
        # With one letter: world 0 is known, both stand.
        self.assertEqual(ask(("begin", 1, 1, 3), ("concede", 1), ("deny", 1), ("concede", 2), ("deny", 2))[1:],
                         [[1, 1], [-33], [-33], [1, 2]])
        # With three: worlds 6 and 7 stand, all but them are known.
        self.assertEqual(ask(("begin", 3, 63, 192), ("concede", 64), ("deny", 127), ("concede", 63))[1:],
                         [[2, 127, 64], [2, 64, 127], [-33]])

    def test_one_that_follows_already(self):
        self.assertEqual(ask(("begin", 2, 8, 3), ("concede", 7), ("deny", 7), ("concede", 3), ("deny", 3))[1:],
                         [[1, 7], [-33], [1, 3], [-33]])

    def test_one_that_is_known_but_against_it(self):
        self.assertEqual(ask(("begin", 2, 12, 3), ("concede", 12), ("deny", 12))[1:], [[-33], [1, 12]])

    def test_always_so_and_never_so(self):
        for letters, full in FULL.items():
            for known in (1, 2, full):
                for standing in (1, 2, full):
                    self.assertEqual(ask(("begin", letters, known, standing), ("concede", full), ("deny", full),
                                         ("concede", 0), ("deny", 0))[1:], [[1, full], [-33], [-33], [1, 0]])

    def test_one_world_that_stands(self):
        for number in propositions(2):
            so = number // 4 % 2 == 1
            for known in (4, 11, 15):
                self.assertEqual(ask(("begin", 2, known, 4), ("concede", number), ("deny", number))[1:],
                                 [[1, number], [-33]] if so else [[-33], [1, number]])

    def test_what_is_learnt_between(self):
        # World 1 may be the real one: 1 can't be got. It is learnt that it isn't: then it can.
        self.assertEqual(ask(("begin", 2, 14, 3), ("concede", 1), ("learn", 12), ("concede", 1))[1:],
                         [[-33], [2], [2, 2, 1]])

    def test_what_is_proposed_between(self):
        self.assertEqual(ask(("begin", 2, 3, 12), ("propose", 7), ("concede", 4), ("deny", 4), ("concede", 8))[1:],
                         [[1, 1], [1, 4], [-33], [-33]])

    def test_refusals_and_answers_change_nothing(self):
        for letters, full in FULL.items():
            for known, standing in ((1, 3), (3, 2), (2, 1)):
                start = ("begin", letters, known, standing)
                for name in NAMES.values():
                    for number in (0, 1, 2, 3, full, full + 1, 256, GREATEST):
                        found = ask(start, (name, number), *probe(letters))
                        self.assertEqual(found[1] == [-22], number > full)
                        self.assertEqual(found[2:], ask(start, *probe(letters))[1:])


class MayCountsNth(unittest.TestCase):
    def hold(self, letters, known, standing):
        made = all_that_can_be_made(letters, known, standing)
        start = begin(letters, known, standing)
        found = ask_many([start], [("may", number) for number in propositions(letters)])
        for number in propositions(letters):
            self.assertEqual(found[number], [1 * (number in made[DENIED]) + 2 * (number in made[CONCEDED])
                                             + 4 * (number in made[DOUBTED])])
        self.assertEqual(ask(start, ("counts",))[1], [len(made[CONCEDED]), len(made[DENIED]), len(made[DOUBTED])])
        for wanted in (DENIED, CONCEDED, DOUBTED):
            many = len(made[wanted])
            found = ask_many([start], [("nth", wanted, place) for place in range(many + 2)])
            self.assertEqual(found, [[number] for number in made[wanted]] + [[-33], [-33]])

    def test_all_of_one_and_two_letters(self):
        for letters in (1, 2):
            for known, standing in all_states(letters):
                self.hold(letters, known, standing)

    def test_samples_of_three_letters(self):
        for known, standing in samples_of_three(8, 4):
            self.hold(3, known, standing)

    def test_longer_rows_get_no_more_than_two(self):
        for letters in (1, 2):
            for known, standing in all_states(letters):
                made = all_that_can_be_made(letters, known, standing)
                rows = first_shortest(letters, known, standing)
                for wanted in (DENIED, CONCEDED, DOUBTED):
                    self.assertEqual(made[wanted], sorted(number for given, number in rows if given == wanted))

    def test_ordinary_ones(self):
        # One letter, both worlds stand, both may be the real one: 1 and 2 are doubted.
        self.assertEqual(ask(("begin", 1, 3, 3), ("may", 0), ("may", 1), ("may", 2), ("may", 3), ("counts",),
                             ("nth", 2, 0), ("nth", 2, 1), ("nth", 2, 2), ("nth", 1, 0), ("nth", 0, 0))[1:],
                         [[1], [4], [4], [2], [1, 1, 2], [1], [2], [-33], [3], [0]])
        # What stands is known not to be so: whatever can go with it can be made conceded.
        self.assertEqual(ask(("begin", 2, 3, 12), ("may", 4), ("may", 5), ("may", 12), ("may", 3), ("counts",),
                             ("nth", 1, 0), ("nth", 1, 11), ("nth", 1, 12), ("nth", 0, 0), ("nth", 2, 0))[1:],
                         [[3], [7], [2], [1], [12, 12, 4], [4], [15], [-33], [0], [5]])
        # Three letters, one world is known and stands with another.
        self.assertEqual(ask(("begin", 3, 1, 3), ("may", 1), ("may", 2), ("may", 3), ("may", 252), ("counts",),
                             ("nth", 1, 127), ("nth", 1, 128), ("nth", 0, 1), ("nth", 2, 0))[1:],
                         [[2], [1], [2], [1], [128, 128, 0], [255], [-33], [2], [-33]])

    def test_one_world_that_stands(self):
        self.assertEqual(ask(("begin", 3, 255, 128), ("counts",), ("may", 128), ("may", 127), ("nth", 1, 0))[1:],
                         [[128, 128, 0], [2], [1], [128]])

    def test_what_is_learnt_between(self):
        found = ask(("begin", 1, 3, 3), ("may", 1), ("counts",), ("learn", 1), ("may", 1), ("counts",), ("nth", 1, 0))
        self.assertEqual(found[1:], [[4], [1, 1, 2], [1], [2], [2, 2, 0], [1]])

    def test_may_of_what_is_not_a_proposition(self):
        for letters, full in FULL.items():
            for number in (full + 1, 256, 2147483648, GREATEST):
                found = ask(("begin", letters, 1, 3), ("may", number), *probe(letters))
                self.assertEqual(found[1], [-22])
                self.assertEqual(found[2:], ask(("begin", letters, 1, 3), *probe(letters))[1:])

    def test_nth_refusals(self):
        for letters, full in FULL.items():
            start = ("begin", letters, full, full)
            for wanted, place, refusal in ((3, 0, -22), (4, 0, -22), (GREATEST, 0, -22), (3, GREATEST, -22),
                                           (GREATEST, GREATEST, -22), (0, 1, -33), (1, 1, -33), (0, GREATEST, -33),
                                           (1, GREATEST, -33), (2, full - 1, -33), (2, GREATEST, -33)):
                found = ask(start, ("nth", wanted, place), *probe(letters))
                self.assertEqual(found[1], [refusal])
                self.assertEqual(found[2:], ask(start, *probe(letters))[1:])
            self.assertEqual(ask(start, ("nth", 2, full - 2))[1], [full - 1])

    def test_which_one_need_not_be_a_proposition(self):
        # With one letter propositions end at 3, and 4 is still a place of which there's none.
        self.assertEqual(ask(("begin", 1, 3, 3), ("nth", 1, 4))[1], [-33])

    def test_they_change_nothing(self):
        for known, standing in all_states(2):
            start = begin(2, known, standing)
            found = ask(start, ("may", 6), ("counts",), ("nth", 1, 0), ("nth", 0, 0), ("nth", 2, 0), *probe(2))
            self.assertEqual(found[6:], ask(start, *probe(2))[1:])


class FalseFalsenthSurely(unittest.TestCase):
    def hold(self, letters, known, standing):
        start = begin(letters, known, standing)
        false = all_false(letters, known, standing)
        self.assertEqual(ask(start, ("false",))[1], [len(false)])
        found = ask_many([start], [("falsenth", place) for place in range(len(false) + 2)])
        self.assertEqual(found, [[number] for number in false] + [[-33], [-33]])
        made = all_that_can_be_made(letters, known, standing)
        for wanted in (DENIED, CONCEDED, DOUBTED):
            found = ask_many([start], [("surely", wanted, number) for number in propositions(letters)])
            for number in propositions(letters):
                only = [given for given in made if number in made[given]] == [wanted]
                self.assertEqual(found[number], [1 if only else 0])

    def test_all_of_one_and_two_letters(self):
        for letters in (1, 2):
            for known, standing in all_states(letters):
                self.hold(letters, known, standing)

    def test_samples_of_three_letters(self):
        for known, standing in samples_of_three(16, 5):
            self.hold(3, known, standing)

    def test_false_by_rows_of_one_and_two(self):
        for letters in (1, 2):
            for known, standing in all_states(letters):
                rows = first_shortest(letters, known, standing)
                false = sorted(number for given, number in rows
                               if given == CONCEDED and not known & worlds_of(number))
                found = ask_many([begin(letters, known, standing)], [("falsenth", place) for place in range(17)])
                self.assertEqual(found, [[number] for number in false] + [[-33]] * (17 - len(false)))

    def test_only_what_stands_known_not_to_be_so_has_any(self):
        states = [(letters, state) for letters in (1, 2) for state in all_states(letters)]
        states += [(3, state) for state in samples_of_three(200, 6)]
        for letters, (known, standing) in states:
            unknown = 2 ** letters - len(known)
            # Whatever can go with it: all sets of unknown worlds but those that have none of what stands.
            wanted = 0 if known & standing else 2 ** unknown - 2 ** (unknown - len(standing))
            self.assertEqual(ask(begin(letters, known, standing), ("false",))[1], [wanted])

    def test_what_falsenth_tells_can_be_made_conceded_and_is_known_not_to_be_so(self):
        for known, standing in samples_of_three(60, 7):
            start = begin(3, known, standing)
            for got in ask_many([start], [("falsenth", place) for place in range(0, 128, 9)]):
                if got != [-33]:
                    self.assertEqual(got[0] & number_of(known), 0)
                    row = ask(start, ("concede", got[0]))[1][1:]
                    self.assertEqual(ask(start, *[("propose", number) for number in row])[-1][0], CONCEDED)

    def test_ordinary_ones(self):
        # One letter: world 0 is known, world 1 stands.
        self.assertEqual(ask(("begin", 1, 1, 2), ("false",), ("falsenth", 0), ("falsenth", 1), ("surely", 1, 2),
                             ("surely", 0, 2), ("surely", 0, 1), ("surely", 2, 1))[1:],
                         [[1], [2], [-33], [1], [0], [1], [0]])
        # Two letters: worlds 0 and 1 are known, 2 and 3 stand; 4 can be made conceded and denied, 5 doubted too.
        self.assertEqual(ask(("begin", 2, 3, 12), ("false",), ("falsenth", 0), ("falsenth", 1), ("falsenth", 2),
                             ("falsenth", 3), ("surely", 1, 12), ("surely", 0, 12), ("surely", 2, 12),
                             ("surely", 1, 4), ("surely", 0, 4), ("surely", 2, 5), ("surely", 0, 3))[1:],
                         [[3], [4], [8], [12], [-33], [1], [0], [0], [0], [0], [0], [1]])
        # Three letters: worlds 6 and 7 stand, all but them are known.
        self.assertEqual(ask(("begin", 3, 63, 192), ("false",), ("falsenth", 0), ("falsenth", 1), ("falsenth", 2),
                             ("falsenth", 3), ("surely", 1, 192), ("surely", 0, 63), ("surely", 2, 65))[1:],
                         [[3], [64], [128], [192], [-33], [1], [1], [0]])
        # Surely doubted: what may be so stands, and known worlds of it are on both sides.
        self.assertEqual(ask(("begin", 3, 255, 255), ("surely", 2, 15), ("surely", 1, 15), ("surely", 0, 15))[1:],
                         [[1], [0], [0]])

    def test_always_so_and_never_so(self):
        for letters, full in FULL.items():
            for known in (1, 2, full):
                for standing in (1, 2, full):
                    found = ask(("begin", letters, known, standing), ("surely", 1, full), ("surely", 0, full),
                                ("surely", 2, full), ("surely", 1, 0), ("surely", 0, 0), ("surely", 2, 0))
                    self.assertEqual(found[1:], [[1], [0], [0], [0], [1], [0]])

    def test_one_world_that_stands(self):
        for number in propositions(2):
            so = number // 4 % 2
            for known in (4, 11, 15):
                self.assertEqual(ask(("begin", 2, known, 4), ("surely", 1, number), ("surely", 0, number),
                                     ("surely", 2, number))[1:], [[so], [1 - so], [0]])
        self.assertEqual(ask(("begin", 2, 11, 4), ("false",), ("falsenth", 0), ("begin", 2, 15, 4), ("false",))[1:],
                         [[1], [4], [1], [0]])

    def test_one_that_follows_already_and_one_that_is_known_but_against_it(self):
        self.assertEqual(ask(("begin", 2, 12, 3), ("surely", 1, 3), ("surely", 0, 12), ("surely", 1, 12))[1:],
                         [[1], [1], [0]])

    def test_what_is_learnt_between(self):
        self.assertEqual(ask(("begin", 2, 14, 3), ("false",), ("falsenth", 0), ("surely", 1, 1), ("learn", 12),
                             ("false",), ("falsenth", 0), ("falsenth", 2), ("surely", 0, 1), ("learn", 4),
                             ("false",), ("falsenth", 5), ("falsenth", 6))[1:],
                         [[0], [-33], [0], [2], [3], [1], [3], [0], [1], [6], [11], [-33]])

    def test_the_stock_is_not_asked(self):
        calls = [("false",), ("falsenth", 1), ("surely", 0, 4), ("surely", 1, 12), ("counts",), ("may", 5)]
        start = ("begin", 2, 3, 12)
        for stock in ([], [7], [4, 8, 12]):
            self.assertEqual(ask(start, ("stock", stock), *calls)[2:], ask(start, *calls)[1:])

    def test_refusals(self):
        for letters, full in FULL.items():
            start = ("begin", letters, 1, 2)
            for wanted, number in ((3, 0), (4, full), (GREATEST, 1), (0, full + 1), (1, full + 1), (2, 256),
                                   (1, GREATEST), (3, full + 1), (GREATEST, GREATEST)):
                self.assertEqual(ask(start, ("surely", wanted, number))[1], [-22])
            many = ask(start, ("false",))[1][0]
            # Which one is no proposition: above them there's none, too.
            for place in (many, full, full + 1, 256, 2147483648, GREATEST):
                self.assertEqual(ask(start, ("falsenth", place))[1], [-33])
            self.assertEqual(ask(("begin", letters, full, 2), ("falsenth", 0), ("falsenth", GREATEST))[1:],
                             [[-33], [-33]])

    def test_answers_and_refusals_change_nothing(self):
        for letters, full in FULL.items():
            for known, standing in ((1, 3), (3, 2), (2, 1), (1, full - 1)):
                start = [("begin", letters, known, standing), ("stock", [1, full, 1])]
                for call in (("false",), ("falsenth", 0), ("falsenth", GREATEST), ("surely", 1, 2), ("surely", 0, 0),
                             ("surely", 3, 0), ("surely", 0, full + 1), ("surely", GREATEST, GREATEST)):
                    found = ask(*start, ("state",), call, ("state",))
                    self.assertEqual(found[2], [letters, known, standing, 1, full, 1])
                    self.assertEqual(found[4], found[2])


if __name__ == "__main__":
    unittest.main()
