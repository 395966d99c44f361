"""The interface: how calls are written, what is given back, and that nothing is changed or kept."""

import unittest

import treecutsdesk.cuts
from tests.lines import ask, written

CALLS = (
    ("begin", 5), ("bough", 0, 6), ("bough", 1, 7), ("crane", 13), ("weight", 2, 8), ("pieces", [1, 2]),
    ("heaviest", [2]), ("fits", [1]), ("foot", 2, [1]), ("fewest",), ("twigs",), ("less",),
    ("pieces", [2]), ("bough", 7, 0),
)


class Frozen(list):
    """A list that can't be changed."""

    def refuse(self, *given, **named):
        raise AssertionError("what is handed in was changed")

    __setitem__ = __delitem__ = __iadd__ = __imul__ = refuse
    append = clear = extend = insert = pop = remove = reverse = sort = refuse


class Written(unittest.TestCase):
    def test_number_by_number(self):
        line = [0, 5, 1, 0, 6, 1, 1, 7, 4, 13, 2, 2, 8, 5, 2, 1, 2, 6, 1, 2, 7, 1, 1, 8, 2, 1, 1, 9, 10, 3,
                5, 1, 2, 1, 7, 0]
        self.assertEqual(written(CALLS), line)
        told = treecutsdesk.cuts.answers(line)
        self.assertEqual(told, [1, 0, 1, 1, 1, 2, 1, 1000, 1, 7, 4, 3, 5, 6, 8, 1, 11, 1, 0, 1, 1, 2, 1, 2, 2, 1, 2,
                                1, 2, 1, -22, 1, -2])

    def test_whole_numbers_in_a_list(self):
        told = treecutsdesk.cuts.answers(written(CALLS))
        self.assertIs(type(told), list)
        self.assertEqual({type(number) for number in told}, {int})

    def test_no_more_than_a_refusal_below_0(self):
        for found in ask(*CALLS):
            self.assertEqual(min(found) >= 0 or len(found) == 1, True)

    def test_a_line_of_one_call(self):
        self.assertEqual(treecutsdesk.cuts.answers([0, 1]), [1, 0])
        self.assertEqual(treecutsdesk.cuts.answers([3]), [1, -11])
        self.assertEqual(treecutsdesk.cuts.answers([5, 0]), [1, -11])

    def test_a_line_of_256_calls_with_the_longest_rows(self):
        line = written([("begin", 1)] + [("foot", 0, list(range(100)))] * 255)
        self.assertEqual(treecutsdesk.cuts.answers(line), [1, 0] + [1, -22] * 255)

    def test_a_line_of_256_calls_that_look_for_the_most_cuts(self):
        line = written([("begin", 50)] + [("bough", 0, 50)] * 8 + [("crane", 50)] + [("fewest",)] * 246)
        self.assertEqual(treecutsdesk.cuts.answers(line)[-20:], [9, 8, 1, 2, 3, 4, 5, 6, 7, 8] * 2)


class NothingIsKept(unittest.TestCase):
    def test_the_list_is_as_it_was(self):
        line = written(CALLS)
        treecutsdesk.cuts.answers(line)
        self.assertEqual(line, written(CALLS))

    def test_the_list_is_not_changed_for_a_while_either(self):
        self.assertEqual(treecutsdesk.cuts.answers(Frozen(written(CALLS))), treecutsdesk.cuts.answers(written(CALLS)))

    def test_the_same_list_again_gives_the_same(self):
        line = written(CALLS)
        first = treecutsdesk.cuts.answers(line)
        self.assertEqual(treecutsdesk.cuts.answers(line), first)

    def test_what_is_given_back_is_the_callers_own(self):
        line = written(CALLS)
        first = treecutsdesk.cuts.answers(line)
        kept = list(first)
        first.clear()
        self.assertEqual(treecutsdesk.cuts.answers(line), kept)

    def test_each_line_has_a_new_object(self):
        treecutsdesk.cuts.answers(written(CALLS))
        self.assertEqual(ask(("less",), ("begin", 1), ("crane", 5)), [[-11], [0], [1000]])


if __name__ == "__main__":
    unittest.main()
