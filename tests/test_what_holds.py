"""What holds of all trees, on every tree of up to 5 parts with small weights, and on some of 9."""

import itertools
import random
import unittest

from tests.lines import ask, last, tree


def small_trees():
    for count in range(1, 6):
        for holders in itertools.product(*[range(part) for part in range(1, count)]):
            for weights in itertools.product((1, 2, 4), repeat=count):
                yield list(weights), list(holders)


def large_trees():
    source = random.Random(20)
    for turn in range(40):
        most = source.choice((2, 5, 50))
        yield [source.randint(1, most) for part in range(9)], [source.randint(0, part) for part in range(8)]


def way_down(holders, part):
    """The parts from one down to the trunk's foot, itself first."""
    way = [part]
    while way[-1] != 0:
        way.append(holders[way[-1] - 1])
    return way


def foot_by_the_way_down(holders, part, row):
    for below in way_down(holders, part):
        if below == 0 or below in row:
            return below


def pieces_by_the_way_down(weights, holders, row):
    heavy = dict.fromkeys([0] + row, 0)
    for part, one in enumerate(weights):
        heavy[foot_by_the_way_down(holders, part, row)] += one
    return list(heavy.values())


def rows_in_order(count):
    for length in range(count):
        for row in itertools.combinations(range(1, count), length):
            yield list(row)


def fewest_by_trying(weights, holders, bears):
    for row in rows_in_order(len(weights)):
        if max(pieces_by_the_way_down(weights, holders, row)) <= bears:
            return [len(row)] + row
    return [-33]


class PiecesOfEveryTree(unittest.TestCase):
    def check(self, weights, holders):
        made = tree(weights, holders, max(weights))
        for row in rows_in_order(len(weights)):
            feet = [("foot", part, row) for part in range(len(weights))]
            found = ask(*made, ("pieces", row), ("heaviest", row), ("fits", row), *feet)[len(made):]
            heavy = pieces_by_the_way_down(weights, holders, row)
            self.assertEqual(found[0], [len(row) + 1] + heavy)
            self.assertEqual(found[1], [max(heavy)])
            self.assertEqual(found[2], [int(max(heavy) <= max(weights))])
            self.assertEqual(found[3:], [[foot_by_the_way_down(holders, part, row)] for part in range(len(weights))])
            self.assertEqual(sum(heavy), sum(weights))

    def test_all_rows(self):
        for weights, holders in itertools.islice(small_trees(), 0, None, 7):
            self.check(weights, holders)
        for weights, holders in itertools.islice(large_trees(), 6):
            self.check(weights, holders)


class FewestOfEveryTree(unittest.TestCase):
    def check(self, weights, holders, cranes):
        calls = [call for bears in cranes for call in (("crane", bears), ("fewest",), ("twigs",))]
        found = ask(*tree(weights, holders), *calls)[-len(calls):]
        before = None
        for at, bears in enumerate(cranes):
            fewest, twigs = found[at * 3 + 1:at * 3 + 3]
            self.assertEqual(fewest, fewest_by_trying(weights, holders, bears), (weights, holders, bears))
            self.assertEqual(twigs[0], fewest[0], (weights, holders, bears))
            self.assertEqual(fewest == [-33], bears < max(weights))
            if twigs[0] >= 0:
                self.assertEqual(twigs[0], len(twigs) - 1)
                self.assertEqual(twigs[1:], sorted(set(twigs[1:])))
                self.assertEqual(last(tree(weights, holders, bears), ("fits", twigs[1:])), [1])
                # A stronger crane never needs more.
                self.assertEqual(before is None or fewest[0] <= before, True)
                before = fewest[0]

    def test_small(self):
        for weights, holders in itertools.islice(small_trees(), 0, None, 5):
            self.check(weights, holders, range(1, sum(weights) + 2))

    def test_large(self):
        for weights, holders in large_trees():
            heavy = max(weights)
            self.check(weights, holders, sorted({max(1, heavy - 1), heavy, heavy + 1, heavy * 2, sum(weights) - 1}))


if __name__ == "__main__":
    unittest.main()
