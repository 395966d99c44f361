"""Point 4: crown, boughs, down, least, look, sums, state."""

import unittest

from tests.lines import ask, last, seen, tree

LARGEST = 4294967295

# Part 0 bears 1 and 2; 3 and 4 hang on 1; 5 on 2; 6 on 3. It weighs 73 in all.
BUSHY = tree([1, 2, 4, 8, 16, 32, 10], [0, 0, 1, 1, 2, 3])
ROW_OF_BOUGHS = tree([5] * 9, range(8))
ALL_ON_THE_TRUNK = tree([5] * 9, [0] * 8)
ALONE = tree([30], [])


def of_each_part(name, made, count):
    return [last(made, (name, i)) for i in range(count)]


class NoSuchPart(unittest.TestCase):
    def test_of_each_call_that_names_a_part(self):
        for name in ("crown", "boughs", "down", "look"):
            for i in (7, 8, 9, 50, 1000, 65536, LARGEST):
                self.assertEqual(last(BUSHY, (name, i)), [-2], (name, i))
            for made, i in ((ALONE, 1), (ROW_OF_BOUGHS, 9), (ALL_ON_THE_TRUNK, 9)):
                self.assertEqual(last(made, (name, i)), [-2], (name, i))
                self.assertNotEqual(last(made, (name, i - 1)), [-2], (name, i))

    def test_a_part_that_is_gone(self):
        for name in ("crown", "boughs", "down", "look"):
            self.assertNotEqual(last(BUSHY, (name, 6)), [-2], name)
            self.assertEqual(last(BUSHY, ("less",), (name, 6)), [-2], name)


class NotBegun(unittest.TestCase):
    def test_each_call(self):
        calls = [(name, i) for name in ("crown", "boughs", "down", "look") for i in (0, 1, LARGEST)]
        calls += [("least",), ("sums",), ("state",)]
        self.assertEqual(ask(*calls), [[-11]] * len(calls))
        self.assertEqual(ask(("begin", 0), *calls), [[-22]] + [[-11]] * len(calls))


class Crown(unittest.TestCase):
    def test_of_each_part(self):
        self.assertEqual(of_each_part("crown", BUSHY, 7), [
            [73, 0, 1, 2, 3, 4, 5, 6], [36, 1, 3, 4, 6], [36, 2, 5], [18, 3, 6], [16, 4], [32, 5], [10, 6]])

    def test_trunk_alone(self):
        self.assertEqual(last(ALONE, ("crown", 0)), [30, 0])

    def test_a_row_of_boughs(self):
        self.assertEqual(of_each_part("crown", ROW_OF_BOUGHS, 9),
                         [[45 - 5 * i] + list(range(i, 9)) for i in range(9)])

    def test_all_on_the_trunk(self):
        self.assertEqual(of_each_part("crown", ALL_ON_THE_TRUNK, 9),
                         [[45] + list(range(9))] + [[5, i] for i in range(1, 9)])

    def test_neither_the_crane_nor_a_cut_has_a_say(self):
        self.assertEqual(last(BUSHY, ("crane", 1), ("pieces", [3]), ("crown", 1)), [36, 1, 3, 4, 6])

    def test_as_the_tree_is_by_then(self):
        found = ask(*BUSHY, ("bough", 4, 50), ("crown", 1), ("weight", 1, 3), ("crown", 1), ("less",), ("crown", 1))
        self.assertEqual(found[-5::2], [[86, 1, 3, 4, 6, 7], [87, 1, 3, 4, 6, 7], [37, 1, 3, 4, 6]])


class Boughs(unittest.TestCase):
    def test_of_each_part(self):
        self.assertEqual(of_each_part("boughs", BUSHY, 7), [[2, 1, 2], [2, 3, 4], [1, 5], [1, 6], [0], [0], [0]])

    def test_trunk_alone(self):
        self.assertEqual(last(ALONE, ("boughs", 0)), [0])

    def test_a_row_of_boughs(self):
        self.assertEqual(of_each_part("boughs", ROW_OF_BOUGHS, 9), [[1, i + 1] for i in range(8)] + [[0]])

    def test_all_on_the_trunk(self):
        self.assertEqual(of_each_part("boughs", ALL_ON_THE_TRUNK, 9), [[8, 1, 2, 3, 4, 5, 6, 7, 8]] + [[0]] * 8)

    def test_as_the_tree_is_by_then(self):
        found = ask(*BUSHY, ("bough", 0, 5), ("boughs", 0), ("less",), ("boughs", 0), ("less",), ("boughs", 3))
        self.assertEqual(found[-5::2], [[3, 1, 2, 7], [2, 1, 2], [0]])


class Down(unittest.TestCase):
    def test_of_each_part(self):
        self.assertEqual(of_each_part("down", BUSHY, 7), [
            [1, 0], [2, 1, 0], [2, 2, 0], [3, 3, 1, 0], [3, 4, 1, 0], [3, 5, 2, 0], [4, 6, 3, 1, 0]])

    def test_trunk_alone(self):
        self.assertEqual(last(ALONE, ("down", 0)), [1, 0])

    def test_a_row_of_boughs(self):
        self.assertEqual(of_each_part("down", ROW_OF_BOUGHS, 9),
                         [[i + 1] + list(range(i, -1, -1)) for i in range(9)])

    def test_all_on_the_trunk(self):
        self.assertEqual(of_each_part("down", ALL_ON_THE_TRUNK, 9), [[1, 0]] + [[2, i, 0] for i in range(1, 9)])


class Least(unittest.TestCase):
    def test_the_heaviest_part(self):
        self.assertEqual(last(BUSHY, ("least",)), [32])
        self.assertEqual(last(ROW_OF_BOUGHS, ("least",)), [5])
        self.assertEqual(last(ALONE, ("least",)), [30])

    def test_any_part_may_be_it(self):
        for i in range(7):
            self.assertEqual(last(BUSHY, ("weight", i, 50), ("least",)), [50], i)

    def test_as_the_tree_is_by_then(self):
        found = ask(*BUSHY, ("weight", 5, 1), ("least",), ("weight", 6, 17), ("least",), ("less",), ("least",))
        self.assertEqual(found[-5::2], [[16], [17], [16]])

    def test_the_crane_has_no_say(self):
        for bears in (1, 31, 32, 1000):
            self.assertEqual(last(BUSHY, ("crane", bears), ("least",)), [32], bears)


class Look(unittest.TestCase):
    def test_of_each_part(self):
        self.assertEqual(of_each_part("look", BUSHY, 7), [[0, 1], [0, 2], [0, 4], [1, 8], [1, 16], [2, 32], [3, 10]])

    def test_trunk_alone(self):
        self.assertEqual(last(ALONE, ("look", 0)), [0, 30])

    def test_a_row_of_boughs(self):
        self.assertEqual(of_each_part("look", ROW_OF_BOUGHS, 9), [[0, 5]] + [[i, 5] for i in range(8)])

    def test_as_the_tree_is_by_then(self):
        found = ask(*BUSHY, ("weight", 6, 50), ("look", 6), ("less",), ("bough", 5, 1), ("look", 6), ("weight", 0, 9),
                    ("look", 0))
        self.assertEqual([found[-6], found[-3], found[-1]], [[3, 50], [5, 1], [0, 9]])


class Sums(unittest.TestCase):
    def test_the_crane_bears_just_what_all_weighs_and_one_less_and_one_more(self):
        for bears, number in ((1000, 1), (74, 1), (73, 1), (72, 2)):
            self.assertEqual(last(BUSHY, ("crane", bears), ("sums",)), [73, number], bears)

    def test_a_part_of_it_with_nothing_over(self):
        for bears, number in ((45, 1), (44, 2), (23, 2), (22, 3), (16, 3), (15, 3), (14, 4), (9, 5), (8, 6), (5, 9),
                              (4, 12), (3, 15), (2, 23), (1, 45)):
            self.assertEqual(last(ROW_OF_BOUGHS, ("crane", bears), ("sums",)), [45, number], bears)

    def test_trunk_alone(self):
        found = ask(("begin", 1), ("sums",), ("crane", 1), ("sums",), ("weight", 0, 50), ("sums",))
        self.assertEqual(found[1::2], [[1, 1], [1, 1], [50, 50]])

    def test_the_heaviest_tree(self):
        made = tree([50] * 9, [0] * 8)
        self.assertEqual(ask(*made, ("sums",), ("crane", 449), ("sums",), ("crane", 1), ("sums",))[-5::2],
                         [[450, 1], [450, 2], [450, 450]])


class State(unittest.TestCase):
    def test_at_first(self):
        self.assertEqual(ask(("begin", 7), ("state",)), [[0], [0, 1, 1000]])

    def test_as_the_tree_is_by_then(self):
        self.assertEqual(last(BUSHY, ("state",)), [0, 7, 1000])
        found = ask(*BUSHY, ("crane", 1), ("state",), ("less",), ("state",), ("crane", 999), ("state",))
        self.assertEqual(found[-5::2], [[0, 7, 1], [0, 6, 1], [0, 6, 999]])
        self.assertEqual(last(ROW_OF_BOUGHS, ("state",)), [0, 9, 1000])

    def test_after_calls_that_are_refused(self):
        calls = [("begin", 51), ("bough", 7, 1), ("bough", 0, 0), ("crane", 0), ("crane", 1001), ("weight", 7, 1)]
        self.assertEqual(last(BUSHY + [("crane", 12)], *calls, ("state",)), [0, 7, 12])

    def test_after_another_begin(self):
        self.assertEqual(last(BUSHY, ("crane", 12), ("begin", 3), ("state",)), [0, 1, 1000])


class Looking(unittest.TestCase):
    def test_changes_nothing(self):
        made = BUSHY + [("crane", 35)]
        calls = [(name, i) for name in ("crown", "boughs", "down", "look") for i in (0, 1, 6, 7, LARGEST)]
        for call in calls + [("least",), ("sums",), ("state",)]:
            self.assertEqual(seen(made + [call, call]), seen(made), call)


if __name__ == "__main__":
    unittest.main()
