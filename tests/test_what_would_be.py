"""Point 3: ifcrane, spare, without."""

import unittest

from tests.lines import ask, last, seen, tree

LARGEST = 4294967295

# Part 0 bears 1 and 2; 3 and 4 hang on 1; 5 on 2; 6 on 3. It weighs 73 in all.
WEIGHTS = [1, 2, 4, 8, 16, 32, 10]
HOLDERS = [0, 0, 1, 1, 2, 3]


def bushy(bears):
    return tree(WEIGHTS, HOLDERS, bears)


def row_of_boughs(bears):
    return tree([5] * 9, range(8), bears)


def of_each_part(name, made, count):
    return [last(made, (name, i)) for i in range(count)]


class IfCrane(unittest.TestCase):
    def test_how_many_the_fewest_would_be(self):
        for k, number in ((1000, 0), (999, 0), (74, 0), (73, 0), (72, 1), (37, 1), (36, 2), (33, 2), (32, 2)):
            self.assertEqual(last(bushy(1000), ("ifcrane", k)), [number], k)

    def test_none_would_do(self):
        for k in (31, 30, 2, 1):
            self.assertEqual(last(bushy(1000), ("ifcrane", k)), [-33], k)

    def test_range(self):
        for k in (0, 1001, 1002, 65536, LARGEST):
            self.assertEqual(last(bushy(1000), ("ifcrane", k)), [-22], k)
        self.assertEqual(ask(("begin", 1), ("ifcrane", 0), ("ifcrane", 1), ("ifcrane", 1000), ("ifcrane", 1001)),
                         [[0], [-22], [0], [0], [-22]])

    def test_which_refusal_comes_first(self):
        # No cuts do for a crane that bears nothing, but out of range is told first.
        self.assertEqual(last(bushy(1), ("ifcrane", 0)), [-22])

    def test_what_the_crane_bears_has_no_say(self):
        for bears in (1, 32, 72, 1000):
            self.assertEqual(ask(*bushy(bears), ("ifcrane", 31), ("ifcrane", 36), ("ifcrane", 73))[-3:],
                             [[-33], [2], [0]], bears)

    def test_trunk_alone(self):
        found = ask(("begin", 30), ("ifcrane", 1), ("ifcrane", 29), ("ifcrane", 30), ("ifcrane", 31))
        self.assertEqual(found, [[0], [-33], [-33], [0], [0]])

    def test_a_row_of_boughs(self):
        for k, number in ((45, 0), (44, 1), (25, 1), (24, 2), (15, 2), (14, 4), (10, 4), (9, 8), (5, 8), (4, -33)):
            self.assertEqual(last(row_of_boughs(1), ("ifcrane", k)), [number], k)

    def test_changes_nothing(self):
        for k in (0, 1, 31, 36, 1000, 1001):
            self.assertEqual(seen(bushy(40) + [("ifcrane", k)]), seen(bushy(40)), k)

    def test_not_begun(self):
        self.assertEqual(ask(("ifcrane", 0), ("ifcrane", 1), ("ifcrane", 1000), ("ifcrane", LARGEST)), [[-11]] * 4)


class Spare(unittest.TestCase):
    def test_200_at_the_most(self):
        for bears, number in ((1000, 200), (275, 200), (274, 200), (273, 200), (272, 199), (271, 198), (174, 101)):
            self.assertEqual(of_each_part("spare", bushy(bears), 7), [[number]] * 7, bears)

    def test_none_where_the_crane_bears_just_all(self):
        self.assertEqual(of_each_part("spare", bushy(73), 7), [[0]] * 7)
        self.assertEqual(of_each_part("spare", bushy(74), 7), [[1]] * 7)

    def test_where_one_cut_is_needed(self):
        # Cuts 1 and 2 alone do: 37 is left at part 0, 36 at the bough.
        self.assertEqual(of_each_part("spare", bushy(37), 7), [[0], [1], [1], [1], [1], [1], [1]])
        self.assertEqual(of_each_part("spare", bushy(40), 7), [[3], [4], [4], [4], [4], [4], [4]])

    def test_each_part_by_the_row_that_leaves_it_most(self):
        self.assertEqual(of_each_part("spare", bushy(72), 7), [[35], [36], [36], [54], [56], [40], [62]])

    def test_another_row_than_the_one_ahead_may_bear_more(self):
        # The fewest are part 1, which leaves part 2 with the trunk's foot: 6 there; but part 2 alone is 5.
        made = tree([1, 5, 5], [0, 0], 9)
        self.assertEqual(last(made, ("fewest",)), [1, 1])
        self.assertEqual(of_each_part("spare", made, 3), [[3], [4], [4]])

    def test_a_part_may_become_heavier_than_50(self):
        # Part 6 weighs 10, and could be 72; part 0 of a tree alone could be 250.
        self.assertEqual(last(bushy(72), ("spare", 6)), [62])
        self.assertEqual(ask(("begin", 50), ("spare", 0), ("crane", 250), ("spare", 0), ("crane", 249), ("spare", 0)),
                         [[0], [200], [1000], [200], [250], [199]])

    def test_no_heavier_than_the_crane_bears(self):
        self.assertEqual(of_each_part("spare", tree([5, 5], [0], 7), 2), [[2], [2]])
        self.assertEqual(of_each_part("spare", tree([5, 5], [0], 5), 2), [[0], [0]])
        self.assertEqual(of_each_part("spare", row_of_boughs(5), 9), [[0]] * 9)
        self.assertEqual(of_each_part("spare", row_of_boughs(9), 9), [[4]] * 9)

    def test_trunk_alone(self):
        for bears, number in ((29, -33), (30, 0), (31, 1), (229, 199), (230, 200), (231, 200), (1000, 200)):
            self.assertEqual(last(tree([30], [], bears), ("spare", 0)), [number], bears)

    def test_200_of_a_part_that_is_cut_off(self):
        # It weighs 251, so one cut is needed: part 1 alone does, and has 249 left then; part 0 has most left by cut 2.
        made = tree([50, 1, 50, 50, 50, 50], [0, 0, 2, 3, 4], 250)
        self.assertEqual(of_each_part("spare", made, 2), [[199], [200]])
        # By a crane of 201 part 1 alone does no more, and cut 2 leaves it with the trunk's foot.
        self.assertEqual(last(made, ("crane", 201), ("spare", 1)), [150])

    def test_no_such_part(self):
        for i in (7, 8, 9, 50, 1000, LARGEST):
            self.assertEqual(last(bushy(1000), ("spare", i)), [-2], i)
        self.assertEqual(last([("begin", 1)], ("spare", 1)), [-2])
        self.assertEqual(ask(*bushy(1000), ("spare", 6), ("less",), ("spare", 6))[-3:], [[200], [6], [-2]])

    def test_none_do(self):
        for bears in (1, 31):
            self.assertEqual(of_each_part("spare", bushy(bears), 7), [[-33]] * 7, bears)

    def test_which_refusal_comes_first(self):
        for i in (7, LARGEST):
            self.assertEqual(last(bushy(31), ("spare", i)), [-2], i)

    def test_changes_nothing(self):
        for bears in (31, 40, 1000):
            for i in (0, 6, 7):
                self.assertEqual(seen(bushy(bears) + [("spare", i)]), seen(bushy(bears)), (bears, i))

    def test_not_begun(self):
        self.assertEqual(ask(("spare", 0), ("spare", 1), ("spare", LARGEST)), [[-11]] * 3)


class Without(unittest.TestCase):
    def test_how_many_the_fewest_would_be(self):
        for i, bears, number in ((6, 1000, 0), (6, 63, 0), (6, 62, 1), (5, 41, 0), (5, 40, 1), (1, 71, 0), (1, 70, 1),
                                 (4, 57, 0), (4, 56, 1), (2, 37, 1), (2, 36, 1), (2, 35, 2)):
            self.assertEqual(last(bushy(bears), ("without", i)), [number], (i, bears))

    def test_what_hangs_on_it_still_does(self):
        # Eight parts of 5, in a row of nine.
        for bears, number in ((5, 7), (9, 7), (10, 3), (20, 1), (39, 1), (40, 0)):
            found = [last(row_of_boughs(bears), ("without", i)) for i in range(1, 9)]
            self.assertEqual(found, [[number]] * 8, bears)

    def test_no_part_but_that_one_is_too_heavy(self):
        self.assertEqual(last(bushy(31), ("fewest",)), [-33])
        self.assertEqual(last(bushy(31), ("without", 5)), [1])
        self.assertEqual(last(bushy(16), ("without", 5)), [2])
        self.assertEqual(last(tree([3, 50], [0], 3), ("without", 1)), [0])

    def test_another_is_too_heavy(self):
        for i in (1, 2, 3, 4, 6):
            self.assertEqual(last(bushy(31), ("without", i)), [-33], i)
        self.assertEqual(last(bushy(15), ("without", 5)), [-33])
        self.assertEqual(last(bushy(15), ("without", 4)), [-33])
        self.assertEqual(of_each_part("without", tree([9, 3, 3], [0, 0], 8), 3), [[-16], [-33], [-33]])

    def test_the_trunks_foot(self):
        for bears in (1000, 73, 32):
            self.assertEqual(last(bushy(bears), ("without", 0)), [-16], bears)
        self.assertEqual(ask(("begin", 30), ("without", 0), ("crane", 29), ("without", 0)),
                         [[0], [-16], [1000], [-16]])

    def test_no_such_part(self):
        for i in (7, 8, 9, 50, 1000, LARGEST):
            self.assertEqual(last(bushy(1000), ("without", i)), [-2], i)
        self.assertEqual(last([("begin", 1)], ("without", 1)), [-2])
        self.assertEqual(ask(*bushy(1000), ("without", 6), ("less",), ("without", 6))[-3:], [[0], [6], [-2]])

    def test_which_refusal_comes_first(self):
        self.assertEqual(last(bushy(1), ("without", 0)), [-16])
        self.assertEqual(last(bushy(1), ("without", 7)), [-2])
        self.assertEqual(last(bushy(1), ("without", LARGEST)), [-2])

    def test_changes_nothing(self):
        for bears in (15, 31, 40, 1000):
            for i in (0, 1, 5, 6, 7):
                self.assertEqual(seen(bushy(bears) + [("without", i)]), seen(bushy(bears)), (bears, i))

    def test_not_begun(self):
        self.assertEqual(ask(("without", 0), ("without", 1), ("without", LARGEST)), [[-11]] * 3)


if __name__ == "__main__":
    unittest.main()
