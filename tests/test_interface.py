"""The interface: how calls are written, what is given back, and that nothing is changed or kept."""

import unittest

import treecutsdesk.cuts
from tests.lines import NAMES, ask, written

CALLS = (
    ("begin", 5), ("bough", 0, 6), ("bough", 1, 7), ("crane", 13), ("weight", 2, 8), ("pieces", [1, 2]),
    ("heaviest", [2]), ("fits", [1]), ("foot", 2, [1]), ("fewest",), ("twigs",), ("lightest", 2), ("lightest", 0),
    ("ifcrane", 19), ("spare", 2), ("without", 1), ("crown", 1), ("boughs", 2), ("down", 2), ("least",), ("look", 2),
    ("sums",), ("state",), ("less",), ("pieces", [2]), ("bough", 7, 0),
)
LINE = [
    0, 5, 1, 0, 6, 1, 1, 7, 4, 13, 2, 2, 8, 5, 2, 1, 2,
    6, 1, 2, 7, 1, 1, 8, 2, 1, 1, 9, 10, 11, 2, 11, 0,
    12, 19, 13, 2, 14, 1, 15, 1, 16, 2, 17, 2, 18, 19, 2,
    20, 21, 3, 5, 1, 2, 1, 7, 0,
]
TOLD = [
    1, 0, 1, 1, 1, 2, 1, 1000, 1, 7, 4, 3, 5, 6, 8,
    1, 11, 1, 0, 1, 1, 2, 1, 2, 2, 1, 2, 3, 8, 1, 2, 1, 19,
    1, 0, 1, 5, 1, 0, 3, 14, 1, 2, 1, 0, 4, 3, 2, 1, 0, 1, 8, 2, 1, 8,
    2, 19, 2, 3, 0, 3, 13, 1, 2, 1, -22, 1, -2,
]


class Frozen(list):
    """A list that can't be changed."""

    def refuse(self, *given, **named):
        raise AssertionError("what is handed in was changed")

    __setitem__ = __delitem__ = __iadd__ = __imul__ = refuse
    append = clear = extend = insert = pop = remove = reverse = sort = refuse


class Written(unittest.TestCase):
    def test_number_by_number(self):
        self.assertEqual(written(CALLS), LINE)
        self.assertEqual(treecutsdesk.cuts.answers(LINE), TOLD)

    def test_every_call_is_in_that_line(self):
        self.assertEqual({call[0] for call in CALLS}, set(NAMES))

    def test_how_many_numbers_stand_behind_the_first(self):
        for call, found in zip(CALLS, ask(*CALLS), strict=True):
            if found[0] < 0:
                self.assertEqual(len(found), 1, call)
            elif call[0] in ("pieces", "fewest", "twigs", "boughs", "down"):
                self.assertEqual(len(found), 1 + found[0], call)
            elif call[0] in ("look", "sums"):
                self.assertEqual(len(found), 2, call)
            elif call[0] == "state":
                self.assertEqual(len(found), 3, call)
            elif call[0] not in ("lightest", "crown"):
                self.assertEqual(len(found), 1, call)

    def test_whole_numbers_in_a_list(self):
        told = treecutsdesk.cuts.answers(written(CALLS))
        self.assertIs(type(told), list)
        self.assertEqual({type(number) for number in told}, {int})

    def test_no_more_than_a_refusal_below_0(self):
        for found in ask(*CALLS):
            self.assertEqual(min(found) >= 0 or len(found) == 1, True)

    def test_a_line_of_one_call(self):
        self.assertEqual(treecutsdesk.cuts.answers([0, 1]), [1, 0])
        self.assertEqual(treecutsdesk.cuts.answers([3]), [1, -11])
        self.assertEqual(treecutsdesk.cuts.answers([5, 0]), [1, -11])

    def test_a_line_of_256_calls_with_the_longest_rows(self):
        line = written([("begin", 1)] + [("foot", 0, list(range(100)))] * 255)
        self.assertEqual(treecutsdesk.cuts.answers(line), [1, 0] + [1, -22] * 255)

    def test_a_line_of_256_calls_that_look_for_the_most_cuts(self):
        made = [("begin", 50)] + [("bough", 0, 50)] * 8 + [("crane", 50)]
        for call, found in ((("fewest",), [8, 1, 2, 3, 4, 5, 6, 7, 8]), (("twigs",), [8, 1, 2, 3, 4, 5, 6, 7, 8]),
                            (("lightest", 8), [50, 1, 2, 3, 4, 5, 6, 7, 8]), (("ifcrane", 99), [8]),
                            (("spare", 8), [0]), (("without", 8), [7]),
                            (("crown", 0), [450, 0, 1, 2, 3, 4, 5, 6, 7, 8])):
            self.assertEqual(ask(*made, *[call] * 246)[10:], [found] * 246, call)

    def test_a_line_of_256_calls_before_a_begin(self):
        self.assertEqual(ask(*[("state",)] * 255, ("begin", 1)), [[-11]] * 255 + [[0]])

    def test_a_line_of_256_begins(self):
        self.assertEqual(ask(*[("begin", 1)] * 256), [[0]] * 256)


class BegunAgain(unittest.TestCase):
    AGAIN = [("begin", 9), ("bough", 0, 4), ("bough", 0, 3)]
    LOOKS = [("state",), ("look", 1), ("look", 3), ("fewest",), ("lightest", 1), ("spare", 0), ("without", 2),
             ("sums",), ("crown", 0), ("ifcrane", 12)]

    def test_it_is_as_if_for_the_first_time(self):
        before = CALLS[:5] + (("bough", 0, 50), ("bough", 3, 2))
        found = ask(*before, *self.AGAIN, *self.LOOKS)[len(before):]
        self.assertEqual(found, ask(*self.AGAIN, *self.LOOKS))
        self.assertEqual(found[3:], [[0, 3, 1000], [0, 4], [-2], [0], [12, 1], [200], [0], [16, 1], [16, 0, 1, 2], [1]])

    def test_refused_it_is_as_it_was(self):
        before = CALLS[:5]
        for w in (0, 51, 4294967295):
            found = ask(*before, ("begin", w), *self.LOOKS)
            self.assertEqual(found[5], [-22])
            self.assertEqual(found[6:], ask(*before, *self.LOOKS)[5:])


class NothingIsKept(unittest.TestCase):
    def test_the_list_is_as_it_was(self):
        line = written(CALLS)
        treecutsdesk.cuts.answers(line)
        self.assertEqual(line, written(CALLS))

    def test_the_list_is_not_changed_for_a_while_either(self):
        self.assertEqual(treecutsdesk.cuts.answers(Frozen(written(CALLS))), treecutsdesk.cuts.answers(written(CALLS)))

    def test_the_same_list_again_gives_the_same(self):
        line = written(CALLS)
        first = treecutsdesk.cuts.answers(line)
        self.assertEqual(treecutsdesk.cuts.answers(line), first)

    def test_what_is_given_back_is_the_callers_own(self):
        line = written(CALLS)
        first = treecutsdesk.cuts.answers(line)
        kept = list(first)
        first.clear()
        self.assertEqual(treecutsdesk.cuts.answers(line), kept)

    def test_each_line_has_a_new_object(self):
        treecutsdesk.cuts.answers(written(CALLS))
        self.assertEqual(ask(("less",), ("begin", 1), ("crane", 5)), [[-11], [0], [1000]])


if __name__ == "__main__":
    unittest.main()
