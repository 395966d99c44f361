"""What holds of all trees, and every answer beside a plain trial of all cuts, on many trees of 1 to 9 parts."""

import itertools
import random
import unittest

from tests.lines import ask, last, looks, seen, tree


def small_trees():
    for count in range(1, 6):
        for holders in itertools.product(*[range(part) for part in range(1, count)]):
            for weights in itertools.product((1, 2, 4), repeat=count):
                yield list(weights), list(holders)


def large_trees():
    source = random.Random(20)
    for turn in range(40):
        most = source.choice((2, 5, 50))
        yield [source.randint(1, most) for part in range(9)], [source.randint(0, part) for part in range(8)]


def trees_of_all_sizes(turns):
    """Trees of 1 to 9 parts: of each size a row of boughs, all on the trunk, and some of any shape."""
    source = random.Random(5)
    for count in range(1, 10):
        for turn in range(turns):
            most = source.choice((1, 3, 10, 50))
            weights = [source.randint(1, most) for part in range(count)]
            shapes = (list(range(count - 1)), [0] * (count - 1), [source.randint(0, part) for part in range(count - 1)])
            yield weights, shapes[min(turn, 2)]


def cranes_for(weights):
    """Cranes where something changes: one too weak, just strong enough, some between, just all, one less."""
    heavy, total = max(weights), sum(weights)
    cranes = {1, heavy - 1, heavy, heavy + 1, heavy * 2, (heavy + total) // 2, total - 1, total, total + 1, 1000}
    return sorted(bears for bears in cranes if 1 <= bears <= 1000)


def way_down(holders, part):
    """The parts from one down to the trunk's foot, itself first."""
    way = [part]
    while way[-1] != 0:
        way.append(holders[way[-1] - 1])
    return way


def foot_by_the_way_down(holders, part, row):
    for below in way_down(holders, part):
        if below == 0 or below in row:
            return below


def pieces_by_the_way_down(weights, holders, row):
    heavy = dict.fromkeys([0] + row, 0)
    for part, one in enumerate(weights):
        heavy[foot_by_the_way_down(holders, part, row)] += one
    return list(heavy.values())


def rows_in_order(count):
    for length in range(count):
        for row in itertools.combinations(range(1, count), length):
            yield list(row)


def fewest_by_trying(weights, holders, bears):
    for row in rows_in_order(len(weights)):
        if max(pieces_by_the_way_down(weights, holders, row)) <= bears:
            return [len(row)] + row
    return [-33]


def is_ahead(row, other):
    """The lesser part where two first differ; a row is ahead of one that goes on from it."""
    for one, two in zip(row, other):
        if one != two:
            return one < two
    return len(row) < len(other)


def lightest_by_trying(weights, holders, c):
    heavy, best = sum(weights), []
    for row in rows_in_order(len(weights)):
        if len(row) <= c:
            now = max(pieces_by_the_way_down(weights, holders, row))
            if now < heavy or (now == heavy and is_ahead(row, best)):
                heavy, best = now, row
    return [heavy] + best


def with_weight(weights, i, heavy):
    return weights[:i] + [heavy] + weights[i + 1:]


def spare_by_trying(weights, holders, bears, i):
    """One heavier, and one heavier, as long as the fewest are as many."""
    count = fewest_by_trying(weights, holders, bears)[0]
    if count < 0:
        return [-33]
    more = 0
    while more < 200:
        if fewest_by_trying(with_weight(weights, i, weights[i] + more + 1), holders, bears)[0] != count:
            break
        more += 1
    return [more]


def without_by_trying(weights, holders, bears, i):
    if i == 0:
        return [-16]
    return fewest_by_trying(with_weight(weights, i, 0), holders, bears)[:1]


class PiecesOfEveryTree(unittest.TestCase):
    def check(self, weights, holders):
        made = tree(weights, holders, max(weights))
        for row in rows_in_order(len(weights)):
            feet = [("foot", part, row) for part in range(len(weights))]
            found = ask(*made, ("pieces", row), ("heaviest", row), ("fits", row), ("sums",), *feet)[len(made):]
            heavy = pieces_by_the_way_down(weights, holders, row)
            self.assertEqual(found[0], [len(row) + 1] + heavy)
            self.assertEqual(found[1], [max(heavy)])
            self.assertEqual(found[2], [int(max(heavy) <= max(weights))])
            # All pieces together weigh what the tree does.
            self.assertEqual(sum(found[0][1:]), found[3][0])
            self.assertEqual(found[4:], [[foot_by_the_way_down(holders, part, row)] for part in range(len(weights))])

    def test_all_rows(self):
        for weights, holders in itertools.islice(small_trees(), 0, None, 7):
            self.check(weights, holders)
        for weights, holders in trees_of_all_sizes(3):
            self.check(weights, holders)


class FewestOfEveryTree(unittest.TestCase):
    def check(self, weights, holders, cranes):
        calls = [call for bears in cranes for call in (("crane", bears), ("fewest",), ("twigs",), ("least",))]
        found = ask(*tree(weights, holders), *calls)[-len(calls):]
        before = None
        for at, bears in enumerate(cranes):
            fewest, twigs, least = found[at * 4 + 1:at * 4 + 4]
            self.assertEqual(fewest, fewest_by_trying(weights, holders, bears), (weights, holders, bears))
            self.assertEqual(twigs[0], fewest[0], (weights, holders, bears))
            # There's a way just if no part by itself is too heavy.
            self.assertEqual(fewest == [-33], least[0] > bears)
            if twigs[0] >= 0:
                self.assertEqual(twigs[0], len(twigs) - 1)
                self.assertEqual(twigs[1:], sorted(set(twigs[1:])))
                self.assertEqual(last(tree(weights, holders, bears), ("fits", twigs[1:])), [1])
                # A stronger crane never needs more.
                self.assertEqual(before is None or fewest[0] <= before, True)
                before = fewest[0]

    def test_small(self):
        for weights, holders in itertools.islice(small_trees(), 0, None, 5):
            self.check(weights, holders, range(1, sum(weights) + 2))

    def test_large(self):
        for weights, holders in large_trees():
            heavy = max(weights)
            self.check(weights, holders, sorted({max(1, heavy - 1), heavy, heavy + 1, heavy * 2, sum(weights) - 1}))

    def test_all_sizes(self):
        for weights, holders in trees_of_all_sizes(6):
            self.check(weights, holders, cranes_for(weights))


class LightestOfEveryTree(unittest.TestCase):
    def test_beside_a_trial_of_all_cuts(self):
        chosen = list(itertools.islice(small_trees(), 0, None, 11)) + list(trees_of_all_sizes(6))
        for weights, holders in chosen:
            for c in range(len(weights) + 1):
                found = last(tree(weights, holders), ("lightest", c))
                self.assertEqual(found, lightest_by_trying(weights, holders, c), (weights, holders, c))
                self.assertEqual(last(tree(weights, holders), ("heaviest", found[1:])), found[:1])

    def test_just_those_cranes_that_bear_it_need_no_more(self):
        chosen = list(itertools.islice(small_trees(), 0, None, 41)) + list(trees_of_all_sizes(3))
        for weights, holders in chosen:
            made = tree(weights, holders)
            cranes = range(1, min(200, sum(weights) + 2))
            found = ask(*made, *[("ifcrane", k) for k in cranes])[len(made):]
            for c in range(len(weights) + 1):
                heavy = last(made, ("lightest", c))[0]
                needs_no_more = [0 <= answer[0] <= c for answer in found]
                self.assertEqual(needs_no_more, [k >= heavy for k in cranes], (weights, holders, c))


class WhatWouldBeOfEveryTree(unittest.TestCase):
    def test_ifcrane_is_what_fewest_is_by_that_crane(self):
        for weights, holders in trees_of_all_sizes(4):
            for k in cranes_for(weights):
                found = ask(*tree(weights, holders, 7), ("ifcrane", k), ("crane", k), ("fewest",))
                self.assertEqual(found[-3], found[-1][:1], (weights, holders, k))
                self.assertEqual(found[-2], [7])

    def test_a_stronger_crane_never_needs_more(self):
        for weights, holders in trees_of_all_sizes(3):
            made = tree(weights, holders)
            cranes = range(max(weights), min(max(weights) + 200, sum(weights) + 2))
            found = [answer[0] for answer in ask(*made, *[("ifcrane", k) for k in cranes])[len(made):]]
            self.assertEqual(found, sorted(found, reverse=True))

    def test_spare_on_small_trees(self):
        for weights, holders in itertools.islice(small_trees(), 0, None, 17):
            for bears in range(max(1, max(weights) - 1), sum(weights) + 3):
                made = tree(weights, holders, bears)
                found = [last(made, ("spare", i)) for i in range(len(weights))]
                tried = [spare_by_trying(weights, holders, bears, i) for i in range(len(weights))]
                self.assertEqual(found, tried, (weights, holders, bears))

    def test_spare_on_trees_of_all_sizes(self):
        for weights, holders in trees_of_all_sizes(5):
            for bears in cranes_for(weights):
                count = fewest_by_trying(weights, holders, bears)[0]
                for i in range(len(weights)):
                    more = last(tree(weights, holders, bears), ("spare", i))[0]
                    if count < 0:
                        self.assertEqual(more, -33)
                        continue
                    # The fewest never get less where a part is heavier: so the last that holds and the next tell all.
                    by_so_much = with_weight(weights, i, weights[i] + more)
                    by_one_more = with_weight(weights, i, weights[i] + more + 1)
                    self.assertEqual(fewest_by_trying(by_so_much, holders, bears)[0], count, (weights, holders, bears))
                    self.assertEqual(0 <= more <= 200, True)
                    if more < 200:
                        self.assertNotEqual(fewest_by_trying(by_one_more, holders, bears)[0], count,
                                            (weights, holders, bears, i))

    def test_without(self):
        chosen = list(itertools.islice(small_trees(), 0, None, 13)) + list(trees_of_all_sizes(5))
        for weights, holders in chosen:
            for bears in cranes_for(weights):
                made = tree(weights, holders, bears)
                found = [last(made, ("without", i)) for i in range(len(weights))]
                tried = [without_by_trying(weights, holders, bears, i) for i in range(len(weights))]
                self.assertEqual(found, tried, (weights, holders, bears))


class LooksOfEveryTree(unittest.TestCase):
    def check(self, weights, holders, bears):
        made = tree(weights, holders, bears)
        parts = range(len(weights))
        ways = [way_down(holders, part) for part in parts]
        crowns = [[part for part in parts if i in ways[part]] for i in parts]
        hanging = [[part for part in parts if part and holders[part - 1] == i] for i in parts]
        for i in parts:
            found = ask(*made, ("crown", i), ("boughs", i), ("down", i), ("look", i))[-4:]
            self.assertEqual(found[0], [sum(weights[part] for part in crowns[i])] + crowns[i])
            self.assertEqual(found[1], [len(hanging[i])] + hanging[i])
            self.assertEqual(found[2], [len(ways[i])] + ways[i])
            self.assertEqual(found[3], [([0] + holders)[i], weights[i]])
        least, sums, state = ask(*made, ("least",), ("sums",), ("state",))[-3:]
        self.assertEqual(least, [max(weights)])
        self.assertEqual(sums[0], sum(weights))
        # Rounded up: so many cranes' loads are enough, and one less is not.
        self.assertEqual((sums[1] - 1) * bears < sums[0] <= sums[1] * bears, True)
        self.assertEqual(len(sums), 2)
        self.assertEqual(state, [0, len(weights), bears])

    def test_beside_the_way_down(self):
        chosen = list(itertools.islice(small_trees(), 0, None, 19)) + list(trees_of_all_sizes(8))
        for weights, holders in chosen:
            for bears in cranes_for(weights):
                self.check(weights, holders, bears)


class NothingIsChanged(unittest.TestCase):
    def refused(self, count):
        none = (count, count + 1, 50, 4294967295)
        calls = [(name, i) for i in none for name in ("spare", "without", "crown", "boughs", "down", "look")]
        calls += [call for i in none for call in (("bough", i, 1), ("weight", i, 1), ("foot", i, []))]
        calls += [call for w in (0, 51, 4294967295) for call in (("begin", w), ("bough", 0, w), ("weight", 0, w))]
        calls += [(name, k) for k in (0, 1001, 4294967295) for name in ("crane", "ifcrane")]
        calls += [(name, row) for row in ([0], [count], [2, 1], [1, 1]) for name in ("pieces", "heaviest", "fits")]
        calls += [("foot", 0, [count]), ("without", 0)]
        if count == 1:
            calls.append(("less",))
        if count == 9:
            calls.append(("bough", 0, 1))
        return calls

    def looking(self, count):
        calls = [(name, i) for i in range(count) for name in ("spare", "without", "lightest")]
        calls += [("ifcrane", k) for k in (1, 2, 10, 50, 1000)]
        return calls + [("lightest", 4294967295)] + looks()[:40]

    def test_by_what_is_refused_and_by_looking(self):
        for weights, holders in trees_of_all_sizes(3):
            for bears in cranes_for(weights)[::3]:
                made = tree(weights, holders, bears)
                refused = self.refused(len(weights))
                for answer, call in zip(ask(*made, *refused)[len(made):], refused, strict=True):
                    self.assertEqual(len(answer) == 1 and answer[0] < 0, True, call)
                self.assertEqual(seen(made + refused), seen(made), (weights, holders, bears))
                self.assertEqual(seen(made + self.looking(len(weights))), seen(made), (weights, holders, bears))


if __name__ == "__main__":
    unittest.main()
