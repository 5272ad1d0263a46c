"""The calls and the interface: before a begin, how calls and answers are told, that nothing is changed or kept."""

import contextlib
import io
import unittest

from madeconceded.disputations import answers
from tests.plainly import GREATEST, ask, parted, told

ARGUMENTS = {"begin": 3, "propose": 1, "stand": 1, "learn": 1, "answer": 1, "concede": 1, "deny": 1, "may": 1,
             "counts": 0, "nth": 2, "false": 0, "falsenth": 1, "surely": 2, "from": 2, "least": 0, "reach": 0,
             "reachnth": 1, "stands": 1, "idle": 0, "state": 0}

FORTY = [("begin", 2, 15, 3), ("propose", 1), ("stock", []), ("stock", [1, 1, 2]), ("answer", 7), ("concede", 1),
         ("deny", 2), ("may", 9), ("counts",), ("nth", 1, 0), ("stock", [1] * 255), ("stand", 0), ("learn", 12),
         ("begin", 9, 9, 9), ("concede", 2), ("deny", 1), ("counts",), ("nth", 3, 0), ("begin", 3, 15, 240),
         ("propose", 31)] * 2

FORTY_MORE = [("false",), ("begin", 2, 3, 12), ("stock", [7, 11, 7, 5]), ("false",), ("falsenth", 1), ("falsenth", 3),
              ("surely", 1, 12), ("surely", 3, 0), ("from", 1, 8), ("from", 1, 3), ("from", 0, 16), ("least",),
              ("reach",), ("reachnth", 1), ("reachnth", 3), ("stands", 4), ("stands", 0), ("stands", 16), ("idle",),
              ("state",), ("propose", 11), ("idle",), ("from", 1, 8), ("stands", 12), ("least",), ("state",),
              ("begin", 1, 1, 0), ("state",), ("begin", 1, 3, 1), ("state",), ("reach",), ("reachnth", 0), ("idle",),
              ("false",), ("surely", 1, 1), ("from", 2, 1), ("stands", 1), ("stock", [4]), ("falsenth", 0), ("state",)]


class Refusing(list):
    """A list that can't be changed in any way, not for a while either."""

    def refuse(self, *arguments):
        raise AssertionError("what is handed in was changed")

    append = extend = insert = remove = pop = clear = sort = reverse = refuse
    __setitem__ = __delitem__ = __iadd__ = __imul__ = refuse


class BeforeABegin(unittest.TestCase):
    def others(self, number):
        return [(name, *[number] * many) for name, many in ARGUMENTS.items() if name != "begin"]

    def test_every_other_call(self):
        for number in (0, 1, 3, 4, 256, GREATEST):
            found = ask(*self.others(number))
            self.assertEqual(found, [[-11]] * 19)

    def test_each_is_read_just_to_its_end(self):
        for call in self.others(GREATEST):
            self.assertEqual(ask(call, ("begin", 1, 3, 3)), [[-11], [2]])

    def test_the_stock(self):
        for stock in ([], [1], [0] * 6, [1] * 7, [GREATEST], [GREATEST] * 255):
            self.assertEqual(ask(("stock", stock), ("counts",)), [[-11], [-11]])

    def test_a_refused_begin_is_none(self):
        for refused, refusal in ((("begin", 0, 1, 1), -22), (("begin", 1, 0, 1), -22), (("begin", 1, 1, 0), -33)):
            self.assertEqual(ask(refused, *self.others(1), ("stock", [1])), [[refusal]] + [[-11]] * 20)

    def test_behind_one_it_is_no_more(self):
        self.assertEqual(ask(("counts",), ("begin", 1, 1, 0), ("counts",), ("begin", 1, 1, 1), ("counts",)),
                         [[-11], [-33], [-11], [1], [2, 2, 0]])

    def test_what_was_refused_before_leaves_no_trace(self):
        calls = [("begin", 2, 9, 10), ("answer", 1), ("counts",), ("concede", 2)]
        before = [("stand", 1), ("learn", 1), ("stock", [1]), ("propose", 1), ("begin", 1, 1, 0)]
        self.assertEqual(ask(*before, *calls)[5:], ask(*calls))


class HowTheyAreTold(unittest.TestCase):
    def test_the_empty_list(self):
        self.assertEqual(answers([]), [])

    def test_the_very_numbers(self):
        self.assertEqual(answers([0, 2, 3, 12]), [1, 2])
        self.assertEqual(answers([0, 2, 3, 12, 1, 7]), [1, 2, 2, 1, 1])
        self.assertEqual(answers([0, 2, 3, 12, 2, 7]), [1, 2, 1, 3])
        self.assertEqual(answers([0, 2, 3, 12, 3, 1]), [1, 2, 1, 1])
        self.assertEqual(answers([0, 2, 3, 12, 4, 0, 4, 3, 1, 2, 2]), [1, 2, 1, 0, 1, 3])
        self.assertEqual(answers([0, 2, 3, 12, 5, 5]), [1, 2, 2, 2, 0])
        self.assertEqual(answers([0, 2, 3, 12, 6, 4, 6, 12]), [1, 2, 3, 2, 7, 4, 2, 1, 12])
        self.assertEqual(answers([0, 2, 3, 12, 7, 4, 7, 11]), [1, 2, 2, 1, 4, 3, 2, 7, 11])
        self.assertEqual(answers([0, 2, 3, 12, 8, 5]), [1, 2, 1, 7])
        self.assertEqual(answers([0, 2, 3, 12, 9]), [1, 2, 3, 12, 12, 4])
        self.assertEqual(answers([0, 2, 3, 12, 10, 1, 2]), [1, 2, 1, 6])
        self.assertEqual(answers([0, 2, 3, 12, 11]), [1, 2, 1, 3])
        self.assertEqual(answers([0, 2, 3, 12, 12, 1]), [1, 2, 1, 8])
        self.assertEqual(answers([0, 2, 3, 12, 13, 1, 12, 13, 0, 12]), [1, 2, 1, 1, 1, 0])
        self.assertEqual(answers([0, 2, 3, 12, 4, 2, 5, 7, 14, 1, 4, 14, 0, 4]), [1, 2, 1, 2, 2, 1, 1, 1, 0])
        self.assertEqual(answers([0, 2, 3, 12, 4, 2, 5, 7, 15]), [1, 2, 1, 2, 2, 1, 4])
        self.assertEqual(answers([0, 2, 3, 12, 4, 2, 5, 7, 16]), [1, 2, 1, 2, 1, 2])
        self.assertEqual(answers([0, 2, 3, 12, 4, 2, 5, 7, 17, 1]), [1, 2, 1, 2, 1, 12])
        self.assertEqual(answers([0, 2, 3, 12, 4, 2, 5, 7, 18, 4, 18, 12]), [1, 2, 1, 2, 2, 1, 1, 1, 0])
        self.assertEqual(answers([0, 2, 3, 12, 4, 2, 5, 7, 19]), [1, 2, 1, 2, 2, 1, 0])
        self.assertEqual(answers([0, 2, 3, 12, 4, 2, 5, 7, 20]), [1, 2, 1, 2, 5, 2, 3, 12, 5, 7])
        self.assertEqual(answers([0, 2, 3, 12, 20]), [1, 2, 3, 2, 3, 12])
        self.assertEqual(answers([9, 0, 2, 0, 1, 0, 2, 1, 0]), [1, -11, 1, -22, 1, -33])

    def test_a_list_is_read_to_its_end_where_it_is_refused(self):
        for many in (0, 6, 7, 255):
            found = answers([0, 1, 1, 1, 4, many] + [1] * many + [9])
            self.assertEqual(found, [1, 1, 1, many if many < 7 else -22, 3, 2, 2, 0])
            self.assertEqual(answers([4, many] + [0] * many + [0, 1, 1, 1]), [1, -11, 1, 1])

    def test_the_longest_list(self):
        calls = [("begin", 3, 255, 255)] + [("stock", [GREATEST] * 255)] * 39
        self.assertEqual(ask(*calls), [[8]] + [[-22]] * 39)

    def test_forty_calls(self):
        found = ask(*FORTY)
        self.assertEqual(len(found), 40)
        self.assertEqual(found[:20], [[2], [2, 2], [0], [3], [1, 1], [-33], [-33], [4], [4, 4, 8], [3], [-22], [-33],
                                      [2], [-22], [2, 1, 2], [1, 1], [12, 12, 4], [-22], [4], [1, 1]])
        self.assertEqual(found[20:], found[:20])

    def test_forty_more_calls(self):
        self.assertEqual(ask(*FORTY_MORE), [
            [-11], [2], [4], [3], [8], [-33], [1], [-22], [1, 1], [-33], [-22], [1, 4], [3], [8], [-33], [1, 0], [-33],
            [-22], [1, 3], [2, 3, 12, 7, 11, 7, 5], [1, 1], [4, 0, 1, 2, 3], [0], [-33], [1, 8],
            [2, 3, 8, 7, 11, 7, 5], [-33], [2, 3, 8, 7, 11, 7, 5], [1], [1, 3, 1], [1], [1], [0], [0], [1], [-33],
            [0], [-22], [-33], [1, 3, 1]])

    def test_whole_numbers_in_a_list(self):
        for calls in (FORTY, FORTY_MORE):
            found = answers(told(*calls))
            self.assertIs(type(found), list)
            for number in found:
                self.assertIs(type(number), int)

    def test_only_a_refusal_is_below_zero_and_it_is_alone(self):
        for part in parted(answers(told(*FORTY))) + parted(answers(told(*FORTY_MORE))):
            if min(part) < 0:
                self.assertIn(part, ([-11], [-22], [-33]))


class NothingChangedOrKept(unittest.TestCase):
    def test_the_list_is_the_same_after_as_before(self):
        for calls in (FORTY, FORTY_MORE):
            numbers = told(*calls)
            before = list(numbers)
            answers(numbers)
            self.assertEqual(numbers, before)

    def test_the_list_is_not_changed_for_a_while_either(self):
        for calls in (FORTY, FORTY_MORE):
            self.assertEqual(answers(Refusing(told(*calls))), answers(told(*calls)))

    def test_the_answer_is_a_list_of_its_own(self):
        numbers = []
        found = answers(numbers)
        found.append(1)
        self.assertEqual(numbers, [])
        self.assertEqual(answers([]), [])

    def test_the_same_list_twice_is_answered_alike(self):
        for calls in (FORTY, FORTY_MORE):
            numbers = told(*calls)
            first = answers(numbers)
            self.assertEqual(answers([20]), [1, -11])
            self.assertEqual(answers(numbers), first)
            self.assertEqual(answers([9]), [1, -11])

    def test_nothing_is_printed(self):
        out, err = io.StringIO(), io.StringIO()
        with contextlib.redirect_stdout(out), contextlib.redirect_stderr(err):
            answers(told(*FORTY))
            answers(told(*FORTY_MORE))
        self.assertEqual((out.getvalue(), err.getvalue()), ("", ""))


if __name__ == "__main__":
    unittest.main()
