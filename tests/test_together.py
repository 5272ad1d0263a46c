"""Point 5, and all calls together: lists of 40 calls of all kinds, held against answers that are reckoned plainly."""

import random
import unittest

from madeconceded.disputations import answers
from tests.plainly import CONCEDED, DENIED, FULL, GREATEST, NUMBERS, Plain, all_states, ask, begin, fine_stock
from tests.plainly import number_of, parted, propositions, samples_of_three, some_proposition, some_stock, told

REFUSALS = {"begin": (-22, -33), "propose": (-11, -22), "stand": (-11, -22, -33), "learn": (-11, -22, -33),
            "stock": (-11, -22), "answer": (-11, -22), "concede": (-11, -22, -33), "deny": (-11, -22, -33),
            "may": (-11, -22), "counts": (-11,), "nth": (-11, -22, -33), "false": (-11,), "falsenth": (-11, -33),
            "surely": (-11, -22), "from": (-11, -22, -33), "least": (-11,), "reach": (-11,), "reachnth": (-11, -33),
            "stands": (-11, -22, -33), "idle": (-11,), "state": (-11,)}


class Chooser:
    """Calls that fit what is the case, and now and then some that don't."""

    def __init__(self, letters, seed):
        self.letters = letters
        self.chosen = random.Random(seed)
        self.plain = Plain()

    def known(self):
        return number_of(self.plain.known or ())

    def wrong(self):
        full = FULL[self.letters]
        return self.chosen.choice((full + 1, 2 * full, 256, 2147483648, GREATEST - 1, GREATEST))

    def proposition(self):
        if self.chosen.random() < 0.06:
            return self.wrong()
        return some_proposition(self.chosen, self.letters, self.known())

    def part_of_what_stands(self):
        standing = number_of(self.plain.standing or ())
        return self.chosen.choice((standing, standing & self.proposition(), self.proposition(),
                                   FULL[self.letters] & ~self.known()))

    def reached(self):
        """What can stand by the stock, the sets with the longest rows more often than chance has it."""
        rows = self.plain.rows() if self.plain.known else {1: []}
        return self.chosen.choice(sorted(rows, key=lambda number: len(rows[number]))[-3:])

    def given(self):
        return self.chosen.choice((3, 4, self.wrong())) if self.chosen.random() < 0.06 else self.chosen.randrange(3)

    def which(self):
        return self.chosen.choice((0, 0, 1, 2, 3, self.chosen.randint(0, FULL[self.letters]), self.wrong()))

    def stock(self):
        many = self.chosen.choice((0, 1, 7, 255) if self.chosen.random() < 0.2 else (2, 3, 4, 5, 6))
        making = self.chosen.choice((some_stock, fine_stock))
        numbers = making(self.chosen, self.letters, self.known(), many)
        if numbers and self.chosen.random() < 0.1:
            numbers[self.chosen.randrange(many)] = self.wrong()
        return numbers

    def begin(self):
        letters = self.chosen.choice((0, 4, self.wrong())) if self.chosen.random() < 0.1 else self.letters
        known = self.chosen.choice((0, self.wrong())) if self.chosen.random() < 0.1 else self.chosen.choice(
            (2 ** self.chosen.randrange(2 ** self.letters), 1, self.chosen.randint(1, FULL[self.letters])))
        standing = self.chosen.choice((0, self.wrong())) if self.chosen.random() < 0.1 else self.chosen.randint(
            1, FULL[self.letters]) & (~known if self.chosen.random() < 0.7 else GREATEST)
        return ("begin", letters, known, standing)

    def call(self, name):
        if name == "begin":
            return self.begin()
        if name == "stock":
            return ("stock", self.stock())
        if name in ("counts", "false", "least", "reach", "idle", "state"):
            return (name,)
        if name in ("falsenth", "reachnth"):
            return (name, self.which())
        if name == "nth":
            return (name, self.given(), self.which())
        if name == "from" and self.chosen.random() < 0.4:
            return self.chosen.choice(((name, CONCEDED, self.reached()),
                                       (name, DENIED, FULL[self.letters] & ~self.reached())))
        if name == "stands" and self.chosen.random() < 0.4:
            return (name, self.reached())
        if name in ("surely", "from"):
            return (name, self.given(), self.proposition())
        return (name, self.part_of_what_stands() if name in ("stand", "stands") else self.proposition())

    def forty(self):
        """Forty calls of all kinds, what they are answered, and the state behind them."""
        names = [name for name in NUMBERS if name not in ("begin", "stock")] + self.chosen.choices(
            ("stock", "propose", "from", "from", "from", "stands", "stands", "least", "reach", "reachnth", "idle",
             "state", "surely", "falsenth"), k=16)
        self.chosen.shuffle(names)
        # A begin empties the stock: without a new one what's behind it would say little.
        names[20:20] = ["begin", "stock"]
        calls, wanted = [], []
        for name in ["begin", "begin", "stock"] + names if self.chosen.random() < 0.9 else names[-3:] + names:
            calls.append(self.call(name))
            wanted.append(self.plain.answer(*calls[-1]))
        return calls, wanted, self.plain.answer("state")


def lists():
    for letters, many in ((1, 60), (2, 250), (3, 350)):
        for seed in range(many):
            yield Chooser(letters, seed).forty()


class AllCallsTogether(unittest.TestCase):
    @classmethod
    def setUpClass(cls):
        cls.lists = list(lists())

    def test_held_against_what_is_reckoned_plainly(self):
        for calls, wanted, last in self.lists:
            self.assertEqual(len(calls), 40)
            for call, got, right in zip(calls, ask(*calls), wanted):
                self.assertEqual((call, got), (call, right))

    def test_all_kinds_of_answers_are_among_them(self):
        seen = {(call[0], min(given[0], 0)) for calls, wanted, last in self.lists for call, given in zip(calls, wanted)}
        self.assertEqual(seen, {(name, given) for name, refusals in REFUSALS.items() for given in refusals + (0,)})
        rows = {(call[0], given[0]) for calls, wanted, last in self.lists for call, given in zip(calls, wanted)}
        self.assertLessEqual({(name, many) for name in ("from", "stands") for many in (0, 1, 2, 3)}, rows)
        self.assertLessEqual({(name, many) for name in ("concede", "deny") for many in (1, 2)}, rows)

    def test_several_letters_in_one_list(self):
        for seed in range(40):
            calls, wanted = [], []
            chooser = Chooser(1, seed)
            for turn in range(4):
                chooser.letters = chooser.chosen.choice((1, 2, 3))
                for name in ["begin", "stock"] + chooser.chosen.choices(list(NUMBERS), k=8):
                    calls.append(chooser.call(name))
                    wanted.append(chooser.plain.answer(*calls[-1]))
            self.assertEqual(ask(*calls), wanted)

    def test_the_list_is_the_same_after_as_before_and_twice_is_answered_alike(self):
        for calls, wanted, last in self.lists:
            numbers = told(*calls)
            before = list(numbers)
            first = answers(numbers)
            self.assertEqual(numbers, before)
            self.assertEqual(answers(numbers), first)
            self.assertEqual(numbers, before)

    def test_whole_numbers_and_refusals_alone(self):
        for calls, wanted, last in self.lists:
            found = answers(told(*calls))
            self.assertIs(type(found), list)
            self.assertTrue(all(type(number) is int for number in found))
            for part in parted(found):
                self.assertTrue(min(part) >= 0 or part in ([-11], [-22], [-33]), part)

    def test_what_is_refused_or_only_asked_changes_nothing(self):
        changing = ("begin", "propose", "stand", "learn", "stock")
        for calls, wanted, last in self.lists:
            kept = [(call, given) for call, given in zip(calls, wanted) if given[0] >= 0 and call[0] in changing]
            if len(kept) < 40:
                found = ask(*[call for call, given in kept], ("state",))
                self.assertEqual(found, [given for call, given in kept] + [last])

    def test_something_always_stands(self):
        for calls, wanted, last in self.lists:
            for call, given in zip(calls, wanted):
                if call[0] == "state" and given != [-11]:
                    self.assertGreater(given[2], 0)
                if call[0] == "least" and given != [-11]:
                    self.assertGreater(given[0], 0)


class WhatHolds(unittest.TestCase):
    def states(self):
        for letters in (1, 2):
            for known, standing in all_states(letters):
                yield letters, known, standing
        for known, standing in samples_of_three(40, 71):
            yield 3, known, standing

    def test_just_that_which_can_go_with_what_stands_and_is_so_in_all_known_worlds_of_it(self):
        for letters, known, standing in self.states():
            real, stands = number_of(known & standing), number_of(standing)
            wanted = [number for number in propositions(letters) if number & stands and number & real == real]
            found = ask(begin(letters, known, standing), ("counts",), ("nth", CONCEDED, len(wanted) - 1),
                        ("nth", CONCEDED, len(wanted)), ("false",))
            self.assertEqual(found[1][0], len(wanted))
            self.assertEqual(found[2:4], [[wanted[-1]], [-33]])
            self.assertEqual(found[4], [len([number for number in wanted if not number & number_of(known)])])

    def test_from_a_stock_comes_nothing_that_cannot_be_made(self):
        chosen = random.Random(81)
        for letters, known, standing in self.states():
            numbers = [chosen.randint(0, FULL[letters]) for turn in range(12)]
            start = [begin(letters, known, standing), ("stock", some_stock(chosen, letters, number_of(known), 6))]
            found = ask(*start, *[("may", number) for number in numbers], *[("from", 1, number) for number in numbers],
                        *[("from", 0, number) for number in numbers])
            for at in range(12):
                self.assertTrue(found[14 + at] == [-33] or found[2 + at][0] & 2)
                self.assertTrue(found[26 + at] == [-33] or found[2 + at][0] & 1)

    def test_surely_agrees_with_may(self):
        for letters, known, standing in self.states():
            for number in list(propositions(letters))[::1 if letters < 3 else 17]:
                found = ask(begin(letters, known, standing), ("may", number),
                            *[("surely", wanted, number) for wanted in (0, 1, 2)])
                self.assertEqual(found[2:], [[int(found[1] == [2 ** wanted])] for wanted in (0, 1, 2)])


if __name__ == "__main__":
    unittest.main()
