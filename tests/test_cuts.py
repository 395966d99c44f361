"""Point 2: pieces, heaviest, fits, foot, fewest, twigs, lightest."""

import unittest

from tests.lines import ask, last, seen, tree

LARGEST = 4294967295

# Part 0 bears 1 and 2; 3 and 4 hang on 1; 5 on 2; 6 on 3.
BUSHY = tree([1, 2, 4, 8, 16, 32, 10], [0, 0, 1, 1, 2, 3])
ROW_OF_BOUGHS = tree([5] * 9, range(8))
ALL_ON_THE_TRUNK = tree([5] * 9, [0] * 8)
ALONE = tree([30], [])

WRONG_ROWS = (
    [0], [0, 1], [1, 0], [0, 0], [1, 1], [2, 1], [1, 3, 2], [1, 2, 2], [7], [8], [9], [1, 7], [6, 7], [50], [51],
    [1000], [1001], [65535], [1, 65535], [65535, 1], list(range(100)), list(range(1, 101)), [0] * 100, [1] * 100,
    list(range(100, 0, -1)), [1, 2, 3, 4, 5, 6, 7], list(range(7)),
)


class RowsThatAreRefused(unittest.TestCase):
    def test_by_each_call(self):
        for row in WRONG_ROWS:
            found = ask(*BUSHY, ("pieces", row), ("heaviest", row), ("fits", row), ("foot", 0, row))
            self.assertEqual(found[-4:], [[-22]] * 4, row)

    def test_of_a_trunk_alone_every_row_but_the_empty_one(self):
        for row in ([0], [1], [65535], [1, 2]):
            found = ask(*ALONE, ("pieces", row), ("heaviest", row), ("fits", row), ("foot", 0, row))
            self.assertEqual(found[-4:], [[-22]] * 4, row)

    def test_a_part_that_is_gone(self):
        self.assertEqual(ask(*BUSHY, ("fits", [6]), ("less",), ("fits", [6]))[-3:], [[1], [6], [-22]])

    def test_they_change_nothing_and_the_next_call_is_read_rightly(self):
        for row in WRONG_ROWS:
            calls = [("pieces", row), ("heaviest", row), ("fits", row), ("foot", 1, row), ("foot", 7, row)]
            self.assertEqual(seen(BUSHY + calls), seen(BUSHY), row)


class Pieces(unittest.TestCase):
    def test_no_cuts(self):
        self.assertEqual(last(BUSHY, ("pieces", [])), [1, 73])
        self.assertEqual(last(ALONE, ("pieces", [])), [1, 30])

    def test_all(self):
        self.assertEqual(last(BUSHY, ("pieces", [1, 2, 3, 4, 5, 6])), [7, 1, 2, 4, 8, 16, 32, 10])
        self.assertEqual(last(ROW_OF_BOUGHS, ("pieces", list(range(1, 9)))), [9] + [5] * 9)

    def test_one(self):
        self.assertEqual(last(BUSHY, ("pieces", [1])), [2, 37, 36])
        self.assertEqual(last(BUSHY, ("pieces", [3])), [2, 55, 18])
        self.assertEqual(last(BUSHY, ("pieces", [6])), [2, 63, 10])

    def test_a_bough_and_one_that_hangs_on_it(self):
        self.assertEqual(last(BUSHY, ("pieces", [1, 3])), [3, 37, 18, 18])
        self.assertEqual(last(BUSHY, ("pieces", [1, 6])), [3, 37, 26, 10])
        self.assertEqual(last(BUSHY, ("pieces", [1, 3, 6])), [4, 37, 18, 8, 10])

    def test_the_order_is_that_of_the_cuts(self):
        self.assertEqual(last(BUSHY, ("pieces", [2, 4, 6])), [4, 11, 36, 16, 10])

    def test_a_row_of_boughs(self):
        self.assertEqual(last(ROW_OF_BOUGHS, ("pieces", [2, 7])), [3, 10, 25, 10])

    def test_the_crane_has_no_say(self):
        self.assertEqual(last(BUSHY, ("crane", 1), ("pieces", [1])), [2, 37, 36])


class Heaviest(unittest.TestCase):
    def test_ordinary(self):
        for row, heavy in (([], 73), ([1], 37), ([2], 37), ([1, 2], 36), ([2, 3], 36), ([2, 5], 37), ([1, 2, 5], 36),
                           ([1, 2, 3, 4, 5, 6], 32)):
            self.assertEqual(last(BUSHY, ("heaviest", row)), [heavy], row)

    def test_trunk_alone(self):
        self.assertEqual(last(ALONE, ("heaviest", [])), [30])

    def test_any_piece_may_be_it(self):
        made = tree([3, 1, 9, 2], [0, 1, 2])
        self.assertEqual(last(made, ("heaviest", [1, 2, 3])), [9])
        self.assertEqual(last(made, ("weight", 0, 20), ("heaviest", [1, 2, 3])), [20])
        self.assertEqual(last(made, ("weight", 3, 20), ("heaviest", [1, 2, 3])), [20])


class Fits(unittest.TestCase):
    def test_just_as_heavy_as_the_crane_bears_and_one_more(self):
        for row, heavy in (([], 73), ([1], 37), ([1, 2], 36), ([1, 2, 3, 4, 5, 6], 32)):
            self.assertEqual(last(BUSHY, ("crane", heavy), ("fits", row)), [1], row)
            self.assertEqual(last(BUSHY, ("crane", heavy - 1), ("fits", row)), [0], row)
            self.assertEqual(last(BUSHY, ("crane", 1000), ("fits", row)), [1], row)
            self.assertEqual(last(BUSHY, ("crane", 1), ("fits", row)), [0], row)

    def test_trunk_alone(self):
        self.assertEqual(ask(*ALONE, ("crane", 30), ("fits", []), ("crane", 29), ("fits", []))[-4:],
                         [[1000], [1], [30], [0]])

    def test_at_first_the_heaviest_tree_fits(self):
        made = [("begin", 50)] + [("bough", 0, 50)] * 8
        self.assertEqual(last(made, ("fits", [])), [1])


class Foot(unittest.TestCase):
    def test_of_each_part(self):
        for row, feet in (([], [0, 0, 0, 0, 0, 0, 0]), ([1], [0, 1, 0, 1, 1, 0, 1]), ([3], [0, 0, 0, 3, 0, 0, 3]),
                          ([1, 3], [0, 1, 0, 3, 1, 0, 3]), ([1, 6], [0, 1, 0, 1, 1, 0, 6]),
                          ([2, 5], [0, 0, 2, 0, 0, 5, 0]), ([1, 2, 3, 4, 5, 6], [0, 1, 2, 3, 4, 5, 6])):
            found = ask(*BUSHY, *[("foot", i, row) for i in range(7)])
            self.assertEqual(found[-7:], [[part] for part in feet], row)

    def test_a_row_of_boughs(self):
        found = ask(*ROW_OF_BOUGHS, *[("foot", i, [3, 4, 8]) for i in range(9)])
        self.assertEqual(found[-9:], [[0], [0], [0], [3], [4], [4], [4], [4], [8]])

    def test_trunk_alone(self):
        self.assertEqual(last(ALONE, ("foot", 0, [])), [0])

    def test_no_such_part(self):
        for i in (7, 8, 9, 50, 51, 1000, LARGEST):
            self.assertEqual(last(BUSHY, ("foot", i, [])), [-2], i)
        self.assertEqual(last(BUSHY, ("foot", 6, [])), [0])
        self.assertEqual(last(ALONE, ("foot", 1, [])), [-2])

    def test_which_refusal_comes_first(self):
        for row in WRONG_ROWS:
            self.assertEqual(last(BUSHY, ("foot", 7, row)), [-2], row)
            self.assertEqual(last(BUSHY, ("foot", LARGEST, row)), [-2], row)
            self.assertEqual(last(BUSHY, ("foot", 6, row)), [-22], row)


class Fewest(unittest.TestCase):
    def test_none_are_needed(self):
        self.assertEqual(last(BUSHY, ("fewest",)), [0])
        self.assertEqual(last(BUSHY, ("crane", 73), ("fewest",)), [0])

    def test_one_too_weak(self):
        self.assertEqual(last(BUSHY, ("crane", 72), ("fewest",)), [1, 1])

    def test_of_like_ones_the_row_that_is_ahead(self):
        self.assertEqual(last(BUSHY, ("crane", 36), ("fewest",)), [2, 1, 2])
        self.assertEqual(last(BUSHY, ("crane", 35), ("fewest",)), [2, 3, 5])
        # Part 2 alone does, and so does part 3; part 1 alone does not.
        self.assertEqual(last(tree([5, 1, 6, 6], [0, 1, 2], 12), ("fewest",)), [1, 2])

    def test_fewer_is_better_than_ahead(self):
        # Cuts 1 and 3 do as well, and are ahead of 3 alone.
        made = tree([4, 1, 1, 6], [0, 0, 0], 6)
        self.assertEqual(last(made, ("fits", [1, 3])), [1])
        self.assertEqual(last(made, ("fewest",)), [1, 3])

    def test_trunk_alone(self):
        self.assertEqual(ask(*ALONE, ("crane", 30), ("fewest",), ("crane", 29), ("fewest",))[-4:],
                         [[1000], [0], [30], [-33]])

    def test_a_part_just_as_heavy_as_the_crane_bears_and_one_too_weak(self):
        self.assertEqual(last(BUSHY, ("crane", 32), ("fewest",)), [2, 3, 5])
        self.assertEqual(last(BUSHY, ("crane", 31), ("fewest",)), [-33])

    def test_all(self):
        for made in (ROW_OF_BOUGHS, ALL_ON_THE_TRUNK):
            self.assertEqual(last(made, ("crane", 5), ("fewest",)), [8, 1, 2, 3, 4, 5, 6, 7, 8])
            self.assertEqual(last(made, ("crane", 9), ("fewest",)), [8, 1, 2, 3, 4, 5, 6, 7, 8])
            self.assertEqual(last(made, ("crane", 4), ("fewest",)), [-33])

    def test_a_row_of_boughs(self):
        for bears, found in ((45, [0]), (44, [1, 1]), (40, [1, 1]), (39, [1, 2]), (25, [1, 4]), (24, [2, 1, 5]),
                             (15, [2, 3, 6]), (14, [4, 1, 3, 5, 7]), (10, [4, 1, 3, 5, 7])):
            self.assertEqual(last(ROW_OF_BOUGHS, ("crane", bears), ("fewest",)), found, bears)

    def test_all_on_the_trunk(self):
        for bears, found in ((45, [0]), (44, [1, 1]), (40, [1, 1]), (39, [2, 1, 2]), (10, [7, 1, 2, 3, 4, 5, 6, 7])):
            self.assertEqual(last(ALL_ON_THE_TRUNK, ("crane", bears), ("fewest",)), found, bears)


class Twigs(unittest.TestCase):
    def test_none_are_needed(self):
        self.assertEqual(last(BUSHY, ("twigs",)), [0])
        self.assertEqual(last(BUSHY, ("crane", 73), ("twigs",)), [0])

    def test_one_too_weak(self):
        # At part 0 two boughs have 36 left each: the first is cut off.
        self.assertEqual(last(BUSHY, ("crane", 72), ("twigs",)), [1, 1])

    def test_the_heaviest_is_cut_off_first(self):
        self.assertEqual(last(tree([4, 1, 6, 2], [0, 0, 0], 7), ("twigs",)), [1, 2])
        self.assertEqual(last(tree([4, 1, 2, 6], [0, 0, 0], 6), ("twigs",)), [2, 2, 3])
        self.assertEqual(last(tree([4, 1, 1, 6], [0, 0, 0], 6), ("twigs",)), [1, 3])

    def test_what_is_left_at_a_bough_counts_not_what_hung_there(self):
        # Part 1 keeps 3 when part 3 is off, so that at part 0 it is part 2 that goes.
        self.assertEqual(last(tree([6, 3, 4, 9], [0, 0, 1], 9), ("twigs",)), [2, 2, 3])

    def test_only_as_many_as_must_be(self):
        self.assertEqual(last(tree([4, 6, 6, 1], [0, 0, 0], 11), ("twigs",)), [1, 1])

    def test_of_like_ones_the_first(self):
        self.assertEqual(last(ALL_ON_THE_TRUNK, ("crane", 30), ("twigs",)), [3, 1, 2, 3])
        self.assertEqual(last(tree([1, 5, 9, 9], [0, 0, 0], 15), ("twigs",)), [1, 2])

    def test_they_rise_though_they_are_made_from_the_last_on(self):
        # Part 5 goes at part 2, then part 3 at part 1.
        self.assertEqual(last(BUSHY, ("crane", 35), ("twigs",)), [2, 3, 5])

    def test_trunk_alone(self):
        self.assertEqual(ask(*ALONE, ("crane", 30), ("twigs",), ("crane", 29), ("twigs",))[-4:],
                         [[1000], [0], [30], [-33]])

    def test_some_part_by_itself_is_too_heavy(self):
        for part in range(4):
            weights = [3, 3, 3, 3]
            weights[part] = 7
            self.assertEqual(last(tree(weights, [0, 1, 0], 6), ("twigs",)), [-33], part)
            self.assertEqual(last(tree(weights, [0, 1, 0], 7), ("twigs",))[0] >= 0, True, part)

    def test_all(self):
        for made in (ROW_OF_BOUGHS, ALL_ON_THE_TRUNK):
            self.assertEqual(last(made, ("crane", 5), ("twigs",)), [8, 1, 2, 3, 4, 5, 6, 7, 8])
            self.assertEqual(last(made, ("crane", 9), ("twigs",)), [8, 1, 2, 3, 4, 5, 6, 7, 8])
            self.assertEqual(last(made, ("crane", 4), ("twigs",)), [-33])

    def test_a_row_of_boughs(self):
        for bears, found in ((45, [0]), (44, [1, 1]), (40, [1, 1]), (39, [1, 2]), (25, [1, 4]), (24, [2, 1, 5]),
                             (15, [2, 3, 6]), (14, [4, 1, 3, 5, 7])):
            self.assertEqual(last(ROW_OF_BOUGHS, ("crane", bears), ("twigs",)), found, bears)


class Lightest(unittest.TestCase):
    def test_no_cuts(self):
        self.assertEqual(last(BUSHY, ("lightest", 0)), [73])
        self.assertEqual(last(ROW_OF_BOUGHS, ("lightest", 0)), [45])

    def test_one_cut(self):
        # Parts 1 and 2 are as good.
        self.assertEqual(last(BUSHY, ("lightest", 1)), [37, 1])
        self.assertEqual(last(tree([5, 1, 6, 6], [0, 1, 2]), ("lightest", 1)), [12, 2])
        self.assertEqual(last(tree([4, 1, 2, 6], [0, 0, 0]), ("lightest", 1)), [7, 3])

    def test_the_lesser_part_is_ahead_where_two_rows_first_differ(self):
        # By two cuts 3 5, 4 5 and 5 6 are as good.
        self.assertEqual(last(BUSHY, ("lightest", 2)), [32, 3, 5])

    def test_the_lesser_part_is_ahead_though_its_row_is_longer(self):
        # No row gets below the 32 of part 5 alone, so 3 5 stays as good as any.
        self.assertEqual(last(BUSHY, ("lightest", 3)), [32, 1, 3, 5])
        self.assertEqual(last(BUSHY, ("lightest", 4)), [32, 1, 2, 3, 5])
        self.assertEqual(last(BUSHY, ("lightest", 5)), [32, 1, 2, 3, 4, 5])
        self.assertEqual(last(ROW_OF_BOUGHS, ("lightest", 3)), [15, 1, 3, 6])

    def test_a_row_is_ahead_of_one_that_goes_on_from_it(self):
        for c in (6, 7, 8, 9):
            self.assertEqual(last(BUSHY, ("heaviest", [1, 2, 3, 4, 5, 6])), [32])
            self.assertEqual(last(BUSHY, ("lightest", c)), [32, 1, 2, 3, 4, 5], c)
        # Part 0 alone weighs 9 whatever is cut: so 1 is ahead of 1 2, but not the empty row.
        self.assertEqual(last(tree([9, 4, 4], [0, 1]), ("lightest", 2)), [9, 1])

    def test_a_row_that_no_cut_makes_better(self):
        self.assertEqual(last(tree([1, 50], [0]), ("lightest", 1)), [50, 1])
        self.assertEqual(last(tree([50, 1], [0]), ("lightest", 1)), [50, 1])

    def test_c_beyond_all_parts(self):
        for c in (7, 8, 9, 50, 1000, 65536, LARGEST):
            self.assertEqual(last(BUSHY, ("lightest", c)), [32, 1, 2, 3, 4, 5], c)
            self.assertEqual(last(ROW_OF_BOUGHS, ("lightest", max(8, c))), [5, 1, 2, 3, 4, 5, 6, 7, 8], c)

    def test_trunk_alone(self):
        for c in (0, 1, 2, 9, LARGEST):
            self.assertEqual(last(ALONE, ("lightest", c)), [30], c)

    def test_a_row_of_boughs(self):
        for c, found in ((1, [25, 4]), (2, [15, 3, 6]), (4, [10, 1, 3, 5, 7]), (7, [10, 1, 2, 3, 4, 5, 6, 7]),
                         (8, [5, 1, 2, 3, 4, 5, 6, 7, 8])):
            self.assertEqual(last(ROW_OF_BOUGHS, ("lightest", c)), found, c)

    def test_all_on_the_trunk(self):
        for c, found in ((1, [40, 1]), (2, [35, 1, 2]), (7, [10, 1, 2, 3, 4, 5, 6, 7]),
                         (8, [5, 1, 2, 3, 4, 5, 6, 7, 8])):
            self.assertEqual(last(ALL_ON_THE_TRUNK, ("lightest", c)), found, c)

    def test_the_crane_has_no_say(self):
        for bears in (1, 31, 37, 1000):
            self.assertEqual(last(BUSHY, ("crane", bears), ("lightest", 1)), [37, 1], bears)

    def test_not_begun(self):
        self.assertEqual(ask(("lightest", 0), ("lightest", LARGEST), ("begin", 51), ("lightest", 1)),
                         [[-11], [-11], [-22], [-11]])


class Looking(unittest.TestCase):
    def test_changes_nothing(self):
        made = BUSHY + [("crane", 35)]
        for call in (("pieces", [1, 3]), ("heaviest", [2]), ("fits", []), ("foot", 6, [3]), ("fewest",), ("twigs",),
                     ("lightest", 0), ("lightest", 2), ("lightest", LARGEST)):
            self.assertEqual(seen(made + [call, call]), seen(made), call)


if __name__ == "__main__":
    unittest.main()
