"""Point 1: begin, bough, weight, less, crane; and -11 before a begin."""

import unittest

from tests.lines import NAMES, ask, last, seen, tree

LARGEST = 4294967295
FULL = tree([1, 2, 3, 4, 5, 6, 7, 8, 9], [0, 0, 1, 1, 2, 2, 3, 3])

EVERY_OTHER_CALL = (
    ("bough", 0, 1), ("weight", 0, 1), ("less",), ("crane", 5), ("pieces", []), ("heaviest", []), ("fits", []),
    ("foot", 0, []), ("fewest",), ("twigs",), ("lightest", 0), ("ifcrane", 1), ("spare", 0), ("without", 0),
    ("crown", 0), ("boughs", 0), ("down", 0), ("least",), ("look", 0), ("sums",), ("state",),
)


class NotBegun(unittest.TestCase):
    def test_every_other_call_is_refused(self):
        self.assertEqual(sorted(call[0] for call in EVERY_OTHER_CALL), sorted(NAMES[1:]))
        self.assertEqual(ask(*EVERY_OTHER_CALL), [[-11]] * 21)
        for call in EVERY_OTHER_CALL:
            self.assertEqual(ask(call), [[-11]], call)
            # What stands behind it is still read as a call of its own.
            self.assertEqual(ask(call, ("begin", 7), ("pieces", [])), [[-11], [0], [1, 7]], call)

    def test_it_comes_before_any_other_refusal(self):
        calls = (("bough", 7, 0), ("weight", LARGEST, LARGEST), ("crane", 0), ("pieces", [0]), ("heaviest", [2, 1]),
                 ("fits", list(range(100))), ("foot", LARGEST, [65535]), ("lightest", LARGEST), ("look", LARGEST))
        self.assertEqual(ask(*calls), [[-11]] * len(calls))

    def test_a_begin_that_is_refused_does_not_begin(self):
        found = ask(("begin", 0), ("less",), ("begin", 51), ("fewest",), ("begin", 50), ("fewest",))
        self.assertEqual(found, [[-22], [-11], [-22], [-11], [0], [0]])

    def test_the_crane_is_not_set_before_a_begin(self):
        self.assertEqual(ask(("crane", 5), ("begin", 1), ("crane", 7)), [[-11], [0], [1000]])


class Begin(unittest.TestCase):
    def test_range(self):
        for w, number in ((0, -22), (1, 0), (2, 0), (49, 0), (50, 0), (51, -22), (1000, -22), (LARGEST, -22)):
            self.assertEqual(ask(("begin", w)), [[number]], w)

    def test_part_0_weighs_that_and_is_alone(self):
        found = ask(("begin", 37), ("pieces", []), ("pieces", [1]), ("less",), ("crane", 9))
        self.assertEqual(found, [[0], [1, 37], [-22], [-6], [1000]])

    def test_again_it_begins_anew(self):
        found = ask(*FULL, ("crane", 20), ("begin", 8), ("pieces", []), ("less",), ("bough", 0, 3), ("crane", 1))
        self.assertEqual(found[-5:], [[0], [1, 8], [-6], [1], [1000]])

    def test_refused_again_it_changes_nothing(self):
        for w in (0, 51, LARGEST):
            self.assertEqual(seen(FULL + [("begin", w)]), seen(FULL))


class Bough(unittest.TestCase):
    def test_answers_its_number(self):
        found = ask(("begin", 1), *[("bough", 0, 1)] * 8)
        self.assertEqual(found, [[0], [1], [2], [3], [4], [5], [6], [7], [8]])

    def test_hangs_where_it_is_told_and_weighs_what_it_is_told(self):
        made = [("begin", 1), ("bough", 0, 2), ("bough", 1, 4), ("bough", 0, 8), ("bough", 2, 16)]
        self.assertEqual(last(made, ("pieces", [1])), [2, 9, 22])
        self.assertEqual(last(made, ("pieces", [2])), [2, 11, 20])
        self.assertEqual(last(made, ("pieces", [3])), [2, 23, 8])
        self.assertEqual(last(made, ("pieces", [4])), [2, 15, 16])

    def test_no_such_part(self):
        for p in (1, 2, 9, 50, 1000, LARGEST):
            self.assertEqual(last([("begin", 1)], ("bough", p, 1)), [-2], p)
        self.assertEqual(ask(("begin", 1), ("bough", 0, 1), ("bough", 2, 1), ("bough", 1, 1)), [[0], [1], [-2], [2]])

    def test_range_of_the_weight(self):
        for w, number in ((0, -22), (1, 1), (50, 1), (51, -22), (1000, -22), (1001, -22), (LARGEST, -22)):
            self.assertEqual(last([("begin", 1)], ("bough", 0, w)), [number], w)

    def test_nine_parts_and_no_more(self):
        self.assertEqual(last(FULL, ("bough", 0, 1)), [-28])
        self.assertEqual(last(FULL, ("bough", 8, 50)), [-28])
        self.assertEqual(ask(*FULL, ("less",), ("bough", 8, 1), ("bough", 7, 1), ("bough", 8, 1))[-4:],
                         [[8], [-2], [8], [-28]])

    def test_which_refusal_comes_first(self):
        self.assertEqual(last([("begin", 1)], ("bough", 1, 0)), [-2])
        self.assertEqual(last([("begin", 1)], ("bough", LARGEST, 51)), [-2])
        self.assertEqual(last(FULL, ("bough", 9, 1)), [-2])
        self.assertEqual(last(FULL, ("bough", 9, 0)), [-2])
        self.assertEqual(last(FULL, ("bough", 0, 0)), [-22])
        self.assertEqual(last(FULL, ("bough", 8, 51)), [-22])

    def test_refused_it_changes_nothing(self):
        for call in (("bough", 9, 1), ("bough", 0, 51), ("bough", 0, 1)):
            self.assertEqual(seen(FULL + [call]), seen(FULL))
        for call in (("bough", 8, 1), ("bough", 0, 0), ("bough", 0, 51)):
            self.assertEqual(seen(FULL[:-2] + [call]), seen(FULL[:-2]))


class Weight(unittest.TestCase):
    def test_answers_what_it_weighed(self):
        found = ask(*FULL, ("weight", 0, 50), ("weight", 0, 9), ("weight", 8, 1), ("weight", 8, 2))
        self.assertEqual(found[-4:], [[1], [50], [9], [1]])

    def test_only_that_part_weighs_otherwise(self):
        self.assertEqual(last(FULL, ("weight", 3, 40), ("pieces", list(range(1, 9)))), [9, 1, 2, 3, 40, 5, 6, 7, 8, 9])

    def test_it_hangs_where_it_did(self):
        self.assertEqual(last(FULL, ("weight", 3, 40), ("pieces", [3])), [2, 24, 57])

    def test_no_such_part(self):
        for i in (1, 50, 1000, LARGEST):
            self.assertEqual(last([("begin", 1)], ("weight", i, 1)), [-2], i)
        self.assertEqual(last(FULL, ("weight", 9, 1)), [-2])
        self.assertEqual(last(FULL, ("less",), ("weight", 8, 1)), [-2])

    def test_range_of_the_weight(self):
        for w, number in ((0, -22), (1, 9), (50, 9), (51, -22), (1000, -22), (LARGEST, -22)):
            self.assertEqual(last(FULL, ("weight", 8, w)), [number], w)

    def test_which_refusal_comes_first(self):
        self.assertEqual(last(FULL, ("weight", 9, 0)), [-2])
        self.assertEqual(last(FULL, ("weight", LARGEST, LARGEST)), [-2])

    def test_refused_it_changes_nothing(self):
        for call in (("weight", 9, 5), ("weight", 0, 0), ("weight", 8, 51), ("weight", 9, 51)):
            self.assertEqual(seen(FULL + [call]), seen(FULL))


class Less(unittest.TestCase):
    def test_answers_how_many_there_are(self):
        self.assertEqual(ask(*FULL, *[("less",)] * 10)[-10:], [[8], [7], [6], [5], [4], [3], [2], [1], [-6], [-6]])

    def test_the_last_part_is_gone(self):
        self.assertEqual(seen(FULL + [("less",)]), seen(FULL[:-2] + FULL[-1:]))
        self.assertEqual(last(FULL, ("less",), ("pieces", [])), [1, 36])
        self.assertEqual(last(FULL, ("less",), ("pieces", [8])), [-22])

    def test_a_part_put_on_again_is_a_new_one(self):
        made = FULL + [("less",), ("bough", 0, 50)]
        self.assertEqual(last(made, ("pieces", [3, 8])), [3, 24, 12, 50])

    def test_one_part_alone(self):
        self.assertEqual(ask(("begin", 5), ("less",), ("pieces", [])), [[0], [-6], [1, 5]])

    def test_the_crane_stays(self):
        self.assertEqual(last(FULL, ("crane", 77), ("less",), ("crane", 1)), [77])


class Crane(unittest.TestCase):
    def test_answers_how_much_it_bore(self):
        found = ask(("begin", 1), ("crane", 1), ("crane", 999), ("crane", 1000), ("crane", 50))
        self.assertEqual(found, [[0], [1000], [1], [999], [1000]])

    def test_range(self):
        for k, number in ((0, -22), (1, 1000), (50, 1000), (51, 1000), (1000, 1000), (1001, -22), (LARGEST, -22)):
            self.assertEqual(last([("begin", 1)], ("crane", k)), [number], k)

    def test_it_bears_so_much_from_then_on(self):
        self.assertEqual(ask(("begin", 20), ("crane", 19), ("fits", []), ("crane", 20), ("fits", [])),
                         [[0], [1000], [0], [19], [1]])

    def test_refused_it_changes_nothing(self):
        made = FULL + [("crane", 12)]
        for k in (0, 1001, LARGEST):
            self.assertEqual(seen(made + [("crane", k)]), seen(made))


if __name__ == "__main__":
    unittest.main()
