"""Point 4: state; and what changes behind each call, and what doesn't."""

import unittest

from tests.plainly import FULL, GREATEST, ask, probe

# With two letters: worlds 0 and 3 are known, worlds 1 and 3 stand.
START = [("begin", 2, 9, 10), ("stock", [3, 4, 3])]
AT_START = [2, 9, 10, 3, 4, 3]


class State(unittest.TestCase):
    def test_letters_known_worlds_what_stands_and_the_stock(self):
        self.assertEqual(ask(*START, ("state",))[-1], AT_START)
        self.assertEqual(ask(("begin", 1, 1, 2), ("stock", [3]), ("state",))[-1], [1, 1, 2, 3])
        self.assertEqual(ask(("begin", 3, 255, 128), ("stock", [0, 255, 7, 7, 128, 1]), ("state",))[-1],
                         [3, 255, 128, 0, 255, 7, 7, 128, 1])

    def test_an_empty_stock_leaves_three_numbers(self):
        for letters, full in FULL.items():
            for known in (1, 2, full):
                for standing in (1, 2, full):
                    self.assertEqual(ask(("begin", letters, known, standing), ("state",), ("stock", []), ("state",)),
                                     [[len(bin(standing)[2:].replace("0", ""))], [letters, known, standing], [0],
                                      [letters, known, standing]])

    def test_it_tells_what_probing_tells(self):
        for letters, full in FULL.items():
            for known, standing in ((1, 3), (3, 2), (full, 1), (full - 1, full)):
                calls = [("begin", letters, full, full), ("learn", known), ("stand", standing), ("state",)]
                found = ask(*calls, *probe(letters))
                self.assertEqual(found[4:], ask(("begin", *found[3]), *probe(letters))[1:])

    def test_before_a_begin(self):
        self.assertEqual(ask(("state",), ("begin", 0, 1, 1), ("state",), ("begin", 1, 1, 0), ("state",),
                             ("begin", 1, 1, 1), ("state",)),
                         [[-11], [-22], [-11], [-33], [-11], [1], [1, 1, 1]])


class BehindWhatChangesSomething(unittest.TestCase):
    def behind(self, *calls):
        return ask(*START, *calls, ("state",))[-1]

    def test_begin(self):
        # A second one begins anew, and empties the stock.
        for letters, full in FULL.items():
            self.assertEqual(self.behind(("begin", letters, full, 1)), [letters, full, 1])
        self.assertEqual(self.behind(("begin", 2, 9, 10)), [2, 9, 10])
        self.assertEqual(self.behind(("begin", 2, 9, 10), ("stock", [1])), [2, 9, 10, 1])

    def test_propose(self):
        # Conceded as known: of what stands world 3 is left. Denied as known not to be so: likewise.
        self.assertEqual(self.behind(("propose", 9)), [2, 9, 8, 3, 4, 3])
        self.assertEqual(self.behind(("propose", 2)), [2, 9, 8, 3, 4, 3])
        # Doubted, following, against it: all stand on.
        for number in (8, 3, 10, 11, 15, 5, 4, 0):
            self.assertEqual(self.behind(("propose", number)), AT_START)

    def test_stand(self):
        for standing in range(1, 16):
            self.assertEqual(self.behind(("stand", standing)), [2, 9, standing, 3, 4, 3])

    def test_learn(self):
        self.assertEqual(self.behind(("learn", 1)), [2, 1, 10, 3, 4, 3])
        self.assertEqual(self.behind(("learn", 14)), [2, 8, 10, 3, 4, 3])
        self.assertEqual(self.behind(("learn", 15)), AT_START)

    def test_stock(self):
        for stock in ([], [0], [15, 15], [1, 2, 3, 4, 5, 6]):
            self.assertEqual(self.behind(("stock", stock)), [2, 9, 10] + stock)

    def test_one_behind_another(self):
        found = ask(("begin", 3, 15, 255), ("state",), ("stock", [1, 31]), ("state",), ("propose", 31), ("state",),
                    ("learn", 12), ("state",), ("propose", 16), ("state",), ("stand", 192), ("state",),
                    ("stock", []), ("state",), ("begin", 1, 3, 1), ("state",))
        self.assertEqual(found[1::2], [[3, 15, 255], [3, 15, 255, 1, 31], [3, 15, 31, 1, 31], [3, 12, 31, 1, 31],
                                       [3, 12, 15, 1, 31], [3, 12, 192, 1, 31], [3, 12, 192], [1, 3, 1]])


class BehindARefusal(unittest.TestCase):
    REFUSED = {
        -22: [("begin", 0, 1, 1), ("begin", 4, 1, 1), ("begin", GREATEST, 1, 1), ("begin", 2, 16, 1),
              ("begin", 2, 1, 16), ("begin", 2, 0, 1), ("begin", 2, 0, 0), ("begin", 1, 1, GREATEST),
              ("propose", 16), ("propose", GREATEST), ("stand", 16), ("stand", GREATEST), ("learn", 16),
              ("learn", GREATEST), ("stock", [16]), ("stock", [1, 1, GREATEST]), ("stock", [1] * 7),
              ("stock", [1] * 255), ("stock", [GREATEST] * 255), ("answer", 16), ("answer", GREATEST),
              ("concede", 16), ("concede", GREATEST), ("deny", 16), ("deny", GREATEST), ("may", 16),
              ("may", GREATEST), ("nth", 3, 0), ("nth", GREATEST, GREATEST), ("surely", 3, 1), ("surely", 1, 16),
              ("surely", GREATEST, GREATEST), ("from", 3, 1), ("from", 1, 16), ("from", 3, 16),
              ("from", GREATEST, GREATEST), ("stands", 16), ("stands", GREATEST)],
        -33: [("begin", 2, 1, 0), ("stand", 0), ("learn", 0), ("learn", 6), ("concede", 0), ("concede", 2),
              ("deny", 15), ("deny", 9), ("nth", 0, 16), ("nth", 1, GREATEST), ("nth", 2, GREATEST), ("falsenth", 0),
              ("falsenth", GREATEST), ("from", 1, 2), ("from", 0, 15), ("from", 2, 0), ("reachnth", 2),
              ("reachnth", GREATEST), ("stands", 0), ("stands", 1), ("stands", 15)]}

    def test_nothing_changed(self):
        for refusal, calls in self.REFUSED.items():
            for call in calls:
                found = ask(*START, call, ("state",))
                self.assertEqual(found[2:], [[refusal], AT_START], call)

    def test_nothing_has_begun_behind_what_is_refused_before_a_begin(self):
        for call in self.REFUSED[-22] + self.REFUSED[-33]:
            found = ask(call, ("state",), ("begin", 2, 9, 10), ("state",))
            self.assertEqual(found[1:], [[-11], [2], [2, 9, 10]])
            self.assertEqual(found[0] == [-11], call[0] != "begin")


class BehindWhatOnlyAsks(unittest.TestCase):
    def test_nothing_changed(self):
        for call in (("answer", 9), ("answer", 2), ("concede", 9), ("deny", 2), ("may", 1), ("counts",), ("nth", 1, 0),
                     ("false",), ("surely", 0, 2), ("surely", 1, 2), ("from", 1, 9), ("from", 2, 8), ("from", 0, 4),
                     ("least",), ("reach",), ("reachnth", 0), ("stands", 10), ("idle",), ("state",)):
            found = ask(*START, ("state",), call, call, ("state",))
            self.assertGreaterEqual(found[3][0], 0, call)
            self.assertEqual(found[3], found[4])
            self.assertEqual((found[2], found[5]), (AT_START, AT_START), call)

    def test_where_the_stock_does_something(self):
        start = [("begin", 3, 1, 240), ("stock", [32, 64, 128])]
        for call in (("from", 1, 16), ("least",), ("reach",), ("reachnth", 1), ("stands", 16), ("idle",), ("false",),
                     ("falsenth", 3), ("surely", 1, 240), ("concede", 16)):
            found = ask(*start, call, ("state",), call)
            self.assertGreaterEqual(found[2][0], 0, call)
            self.assertEqual(found[3], [3, 1, 240, 32, 64, 128])
            self.assertEqual(found[4], found[2])


if __name__ == "__main__":
    unittest.main()
