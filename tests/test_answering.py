"""Point 1: begin, propose, stand, learn, stock, answer."""

import random
import unittest

from tests.plainly import FULL, GREATEST, all_states, ask, ask_many, begin, behind, number_of, probe, propositions
from tests.plainly import right, worlds_of


def samples(many):
    chosen = random.Random(many)
    return [(chosen.randint(1, 255), chosen.randint(1, 255), chosen.randint(0, 255)) for turn in range(many)]


class Begin(unittest.TestCase):
    def test_how_many_worlds_stand(self):
        self.assertEqual(ask(("begin", 1, 1, 2)), [[1]])
        self.assertEqual(ask(("begin", 1, 3, 3)), [[2]])
        self.assertEqual(ask(("begin", 2, 15, 11)), [[3]])
        self.assertEqual(ask(("begin", 2, 1, 15)), [[4]])
        self.assertEqual(ask(("begin", 3, 128, 255)), [[8]])
        self.assertEqual(ask(("begin", 3, 255, 128)), [[1]])
        self.assertEqual(ask(("begin", 3, 255, 0b10110101)), [[5]])

    def test_what_is_handed_in_is_known_and_stands(self):
        # Known are worlds 0 and 3, worlds 1 and 3 stand.
        found = ask(("begin", 2, 9, 10), *probe(2))
        self.assertEqual(found[1:5], [[0, 2], [0, 0], [0, 2], [2, 0]])
        self.assertEqual(found[5], [4])
        self.assertEqual(found[6:], [[2, 0], [0, 0], [0, 0], [2, 0]])

    def test_letters_that_are_not_one_to_three(self):
        for letters in (0, 4, 5, 255, 256, 4294967294, GREATEST):
            self.assertEqual(ask(("begin", letters, 1, 1)), [[-22]])
            self.assertEqual(ask(("begin", letters, 0, 0)), [[-22]])

    def test_what_is_not_a_proposition(self):
        for letters, full in FULL.items():
            self.assertNotEqual(ask(("begin", letters, full, full)), [[-22]])
            for number in (full + 1, 256, 65536, 2147483648, GREATEST):
                self.assertEqual(ask(("begin", letters, number, 1)), [[-22]])
                self.assertEqual(ask(("begin", letters, 1, number)), [[-22]])

    def test_no_known_world_is_not_right_and_no_standing_world_cannot_be(self):
        for letters in FULL:
            self.assertEqual(ask(("begin", letters, 0, 1)), [[-22]])
            self.assertEqual(ask(("begin", letters, 1, 0)), [[-33]])

    def test_of_several_refusals_the_first(self):
        for letters in FULL:
            self.assertEqual(ask(("begin", letters, 0, 0)), [[-22]])
            self.assertEqual(ask(("begin", letters, GREATEST, 0)), [[-22]])
            self.assertEqual(ask(("begin", letters, 0, GREATEST)), [[-22]])
        self.assertEqual(ask(("begin", GREATEST, GREATEST, GREATEST)), [[-22]])
        self.assertEqual(ask(("begin", 0, 1, 0)), [[-22]])

    def test_a_refused_one_begins_nothing(self):
        for refused in (("begin", 0, 1, 1), ("begin", 2, 0, 1), ("begin", 2, 1, 0), ("begin", 2, 16, 1)):
            self.assertEqual(ask(refused, ("counts",), ("answer", 1))[1:], [[-11], [-11]])

    def test_a_second_one_that_is_refused_changes_nothing(self):
        for refused in (("begin", 0, 1, 1), ("begin", 4, 1, 1), ("begin", 1, 4, 1), ("begin", 1, 1, 4),
                        ("begin", 3, 0, 1), ("begin", 3, 1, 0), ("begin", GREATEST, GREATEST, GREATEST)):
            found = ask(("begin", 2, 9, 10), refused, *probe(2))
            self.assertLess(found[1][0], 0)
            self.assertEqual(found[2:], ask(("begin", 2, 9, 10), *probe(2))[1:])

    def test_a_second_one_begins_anew(self):
        for letters, full in FULL.items():
            found = ask(("begin", 2, 9, 10), ("propose", 9), ("begin", letters, full, 2), *probe(letters))
            self.assertEqual(found[2:], ask(("begin", letters, full, 2), *probe(letters)))

    def test_behind_a_second_one_its_letters_hold(self):
        found = ask(("begin", 3, 1, 1), ("answer", 255), ("begin", 1, 1, 1), ("answer", 255), ("answer", 4),
                    ("answer", 3), ("begin", 2, 1, 1), ("answer", 4))
        self.assertEqual(found, [[1], [1, 1], [1], [-22], [-22], [1, 1], [1], [0, 2]])


class ProposeAndAnswer(unittest.TestCase):
    def hold(self, letters, cases):
        """Each case: known, standing, proposition, held against the document's words over sets."""
        for at in range(0, len(cases), 10):
            calls, wanted = [], []
            for known, standing, number in cases[at:at + 10]:
                given, then = right(known, standing, number), behind(known, standing, number)
                proposition = worlds_of(number)
                bearing = 1 if standing <= proposition else 0 if standing & proposition else 2
                calls += [begin(letters, known, standing), ("answer", number), ("propose", number)]
                wanted += [[len(standing)], [given, bearing], [given, len(then)]]
            self.assertEqual(ask(*calls), wanted)

    def test_all_of_one_and_two_letters(self):
        for letters in (1, 2):
            self.hold(letters, [(known, standing, number) for known, standing in all_states(letters)
                                for number in propositions(letters)])

    def test_samples_of_three_letters(self):
        self.hold(3, [(worlds_of(known), worlds_of(standing), number) for known, standing, number in samples(3000)])

    def test_the_very_worlds_stand_on(self):
        for known, standing in all_states(2):
            for number in propositions(2):
                then = behind(known, standing, number)
                found = ask(begin(2, known, standing), ("propose", number), *probe(2))
                self.assertEqual(found[2:], ask(begin(2, known, then), *probe(2))[1:])

    def test_a_row_of_several(self):
        # Known: worlds 0 and 1 of four; all stand; conceded, doubted, denied, then what follows and what's against it.
        found = ask(("begin", 2, 3, 15), ("propose", 7), ("propose", 1), ("propose", 4), ("propose", 3),
                    ("propose", 12), ("answer", 2))
        self.assertEqual(found, [[4], [1, 3], [2, 3], [0, 2], [1, 2], [0, 2], [2, 0]])

    def test_always_so_and_never_so(self):
        for letters, full in FULL.items():
            for standing in (1, 2, full):
                found = ask(("begin", letters, 1, standing), ("answer", full), ("answer", 0), ("propose", full),
                            ("propose", 0))
                many = found[0][0]
                self.assertEqual(found[1:], [[1, 1], [0, 2], [1, many], [0, many]])

    def test_one_that_follows_already(self):
        self.assertEqual(ask(("begin", 2, 8, 3), ("answer", 7), ("propose", 7))[1:], [[1, 1], [1, 2]])
        # So in all worlds that stand, though known not to be so.
        self.assertEqual(ask(("begin", 2, 12, 3), ("answer", 3), ("propose", 3))[1:], [[1, 1], [1, 2]])

    def test_one_that_is_known_but_against_it(self):
        self.assertEqual(ask(("begin", 2, 12, 3), ("answer", 12), ("propose", 12))[1:], [[0, 2], [0, 2]])
        self.assertEqual(ask(("begin", 1, 1, 2), ("answer", 1), ("propose", 1))[1:], [[0, 2], [0, 1]])

    def test_what_stands_known_not_to_be_so(self):
        # Worlds 2 and 3 stand, known are 0 and 1: 4 is known not to be so, 7 known to be so, 5 is neither.
        for number, given, many in ((4, 0, 1), (7, 1, 1), (5, 2, 2)):
            self.assertEqual(ask(("begin", 2, 3, 12), ("answer", number), ("propose", number))[1:],
                             [[given, 0], [given, many]])

    def test_one_world_that_stands_answers_everything(self):
        for letters in FULL:
            for number in propositions(letters):
                found = ask(("begin", letters, 1, 2), ("answer", number), ("propose", number))
                so = number // 2 % 2
                self.assertEqual(found[1:], [[so, 1 if so else 2], [so, 1]])

    def test_what_is_not_a_proposition(self):
        for letters, full in FULL.items():
            for number in (full + 1, 256, 2147483648, GREATEST):
                for name in ("propose", "answer"):
                    found = ask(("begin", letters, 1, 3), (name, number), *probe(letters))
                    self.assertEqual(found[1], [-22])
                    self.assertEqual(found[2:], ask(("begin", letters, 1, 3), *probe(letters))[1:])

    def test_answer_changes_nothing(self):
        for known, standing in all_states(2):
            single = ask(begin(2, known, standing), *probe(2))
            for number in (1, 6, 9, 14):
                self.assertEqual(ask(begin(2, known, standing), ("answer", number), *probe(2))[2:], single[1:])


class Stand(unittest.TestCase):
    def test_that_stands_instead(self):
        for letters, full in FULL.items():
            for standing in range(1, full + 1):
                found = ask(("begin", letters, 2, 1), ("stand", standing), *probe(letters))
                self.assertEqual(found[1:], ask(("begin", letters, 2, standing), *probe(letters)))

    def test_also_what_did_not_stand_any_more(self):
        self.assertEqual(ask(("begin", 2, 3, 15), ("propose", 3), ("stand", 12), ("answer", 12))[1:],
                         [[1, 2], [2], [1, 1]])

    def test_refusals(self):
        for letters, full in FULL.items():
            for number, refusal in ((0, -33), (full + 1, -22), (256, -22), (GREATEST, -22)):
                found = ask(("begin", letters, 1, 3), ("stand", number), *probe(letters))
                self.assertEqual(found[1], [refusal])
                self.assertEqual(found[2:], ask(("begin", letters, 1, 3), *probe(letters))[1:])


class Learn(unittest.TestCase):
    def test_those_that_are_in_both(self):
        for known in range(1, 16):
            for learnt in range(16):
                both = worlds_of(known) & worlds_of(learnt)
                found = ask(("begin", 2, known, 6), ("learn", learnt), *probe(2))
                if both:
                    self.assertEqual(found[1], [len(both)])
                    self.assertEqual(found[2:], ask(begin(2, both, worlds_of(6)), *probe(2))[1:])
                else:
                    self.assertEqual(found[1], [-33])
                    self.assertEqual(found[2:], ask(("begin", 2, known, 6), *probe(2))[1:])

    def test_one_and_three_letters(self):
        self.assertEqual(ask(("begin", 1, 3, 1), ("learn", 2), ("learn", 3), ("learn", 1))[1:], [[1], [1], [-33]])
        self.assertEqual(ask(("begin", 3, 255, 1), ("learn", 248), ("learn", 31), ("learn", 7), ("learn", 16))[1:],
                         [[5], [2], [-33], [1]])

    def test_what_is_not_a_proposition(self):
        for letters, full in FULL.items():
            # The first of these has no world in common with what is known, either.
            for number in (full + 1, 2 * (full + 1) - 1, 256, GREATEST):
                found = ask(("begin", letters, 1, 3), ("learn", number), *probe(letters))
                self.assertEqual(found[1], [-22])
                self.assertEqual(found[2:], ask(("begin", letters, 1, 3), *probe(letters))[1:])

    def test_what_is_learnt_between(self):
        # 5 is doubted, till it is learnt that world 0 or 2 is the real one; what stood then stands on.
        found = ask(("begin", 2, 15, 15), ("propose", 5), ("learn", 5), ("propose", 5), ("learn", 4), ("propose", 4))
        self.assertEqual(found, [[4], [2, 4], [2], [1, 2], [1], [1, 1]])


class Stock(unittest.TestCase):
    def test_how_many_it_has(self):
        for letters, full in FULL.items():
            self.assertEqual(ask(("begin", letters, 1, 1), ("stock", []), ("stock", [0]), ("stock", [full, 0]),
                                 ("stock", [1, 1]), ("stock", [full] * 6))[1:], [[0], [1], [2], [2], [6]])

    def test_more_than_six(self):
        for many in (7, 8, 40, 255):
            self.assertEqual(ask(("begin", 3, 1, 1), ("stock", [1] * many), ("counts",), ("answer", 1))[1:],
                             [[-22]] + ask(("begin", 3, 1, 1), ("counts",), ("answer", 1))[1:])

    def test_what_is_not_a_proposition(self):
        for letters, full in FULL.items():
            for number in (full + 1, 256, GREATEST):
                for wrong in ([number], [1, number], [number, 1, 1, 1, 1, 1], [1, 1, 1, 1, 1, number],
                              [number] * 7, [number] * 255):
                    found = ask(("begin", letters, 1, 3), ("stock", wrong), *probe(letters))
                    self.assertEqual(found[1], [-22])
                    self.assertEqual(found[2:], ask(("begin", letters, 1, 3), *probe(letters))[1:])

    def test_it_changes_nothing_else(self):
        for stock in ([], [5], [5, 5], [0, 1, 2, 3, 4, 5]):
            self.assertEqual(ask(("begin", 2, 9, 10), ("stock", stock), *probe(2))[2:],
                             ask(("begin", 2, 9, 10), *probe(2))[1:])

    def kept(self, *calls):
        return ask(*calls, ("state",))[-1][3:]

    def test_what_the_stock_is(self):
        start = ("begin", 2, 9, 10)
        self.assertEqual(self.kept(start), [])
        self.assertEqual(self.kept(start, ("stock", [3, 15, 0, 3])), [3, 15, 0, 3])
        self.assertEqual(self.kept(start, ("stock", [3, 4]), ("stock", [5])), [5])
        self.assertEqual(self.kept(start, ("stock", [3, 4]), ("stock", [])), [])
        self.assertEqual(self.kept(start, ("stock", [6, 5, 4, 3, 2, 1])), [6, 5, 4, 3, 2, 1])

    def test_a_refusal_leaves_the_stock(self):
        start = [("begin", 2, 9, 10), ("stock", [3, 4])]
        for refused in (("stock", [16]), ("stock", [1, GREATEST]), ("stock", [1] * 7), ("stock", [1] * 255),
                        ("begin", 0, 1, 1), ("begin", 2, 0, 1), ("begin", 2, 1, 0), ("stand", 0), ("learn", 6)):
            self.assertEqual(self.kept(*start, refused), [3, 4])

    def test_a_second_begin_empties_it_and_nothing_else_does(self):
        start = [("begin", 2, 9, 10), ("stock", [3, 4])]
        self.assertEqual(self.kept(*start, ("begin", 2, 9, 10)), [])
        for other in (("propose", 9), ("stand", 5), ("learn", 8), ("answer", 3), ("concede", 2), ("deny", 2),
                      ("may", 2), ("counts",), ("nth", 1, 0), ("false",), ("falsenth", 0), ("surely", 0, 1),
                      ("from", 1, 2), ("least",), ("reach",), ("reachnth", 0), ("stands", 2), ("idle",), ("state",)):
            self.assertEqual(self.kept(*start, other), [3, 4])


class Oracle(unittest.TestCase):
    def test_the_oracle_tells_worlds_as_the_document_does(self):
        for number in propositions(3):
            self.assertEqual(number_of(worlds_of(number)), number)
        self.assertEqual(ask_many([("begin", 1, 3, 3)], [("answer", 1)] * 50), [[2, 0]] * 50)


if __name__ == "__main__":
    unittest.main()
