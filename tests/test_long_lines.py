"""Lines of 256 calls in any order, every answer beside a plain trial; a begin comes again in them."""

import random
import unittest

from tests.lines import NAMES, ask, written
from tests.test_what_holds import (
    fewest_by_trying, foot_by_the_way_down, lightest_by_trying, pieces_by_the_way_down, way_down, with_weight,
    without_by_trying,
)
from treecutsdesk.cuts import answers

LARGEST = 4294967295


def spare_by_halving(weights, holders, bears, i):
    count = fewest_by_trying(weights, holders, bears)[0]
    if count < 0:
        return [-33]
    holds, fails = 0, 201
    while fails - holds > 1:
        middle = (holds + fails) // 2
        if fewest_by_trying(with_weight(weights, i, weights[i] + middle), holders, bears)[0] == count:
            holds = middle
        else:
            fails = middle
    return [holds]


def twigs_by_hand(weights, holders, bears, part=0):
    """What is left at a part, and the cuts made above it."""
    left, cuts, hanging = weights[part], [], {}
    for bough in [one for one in range(1, len(weights)) if holders[one - 1] == part]:
        hanging[bough], above = twigs_by_hand(weights, holders, bears, bough)
        cuts += above
    while left + sum(hanging.values()) > bears:
        off = min(hanging, key=lambda bough: (-hanging[bough], bough))
        hanging.pop(off)
        cuts.append(off)
    return left + sum(hanging.values()), cuts


class Plain:
    """A tree that answers as the words tell it, without any care for how long that takes."""

    def __init__(self):
        self.weights = []
        self.holders = []
        self.bears = 1000

    def answer(self, call):
        name, given = call[0], call[1:]
        if name == "begin":
            if not 1 <= given[0] <= 50:
                return [-22]
            self.weights, self.holders, self.bears = [given[0]], [], 1000
            return [0]
        if not self.weights:
            return [-11]
        with_part = ("bough", "weight", "foot", "spare", "without", "crown", "boughs", "down", "look")
        if name in with_part and given[0] >= len(self.weights):
            return [-2]
        if name in ("pieces", "heaviest", "fits", "foot"):
            row = given[-1]
            if row != sorted(set(row)) or not set(row) <= set(range(1, len(self.weights))):
                return [-22]
        return getattr(self, "of_" + name)(*given)

    def of_bough(self, p, w):
        if not 1 <= w <= 50:
            return [-22]
        if len(self.weights) == 9:
            return [-28]
        self.weights = self.weights + [w]
        self.holders = self.holders + [p]
        return [len(self.holders)]

    def of_weight(self, i, w):
        if not 1 <= w <= 50:
            return [-22]
        before = self.weights[i]
        self.weights = with_weight(self.weights, i, w)
        return [before]

    def of_less(self):
        if not self.holders:
            return [-6]
        self.weights, self.holders = self.weights[:-1], self.holders[:-1]
        return [len(self.weights)]

    def of_crane(self, k):
        if not 1 <= k <= 1000:
            return [-22]
        before, self.bears = self.bears, k
        return [before]

    def of_pieces(self, row):
        return [len(row) + 1] + pieces_by_the_way_down(self.weights, self.holders, row)

    def of_heaviest(self, row):
        return [max(self.of_pieces(row)[1:])]

    def of_fits(self, row):
        return [int(self.of_heaviest(row)[0] <= self.bears)]

    def of_foot(self, i, row):
        return [foot_by_the_way_down(self.holders, i, row)]

    def of_fewest(self):
        return fewest_by_trying(self.weights, self.holders, self.bears)

    def of_twigs(self):
        if max(self.weights) > self.bears:
            return [-33]
        cuts = sorted(twigs_by_hand(self.weights, self.holders, self.bears)[1])
        return [len(cuts)] + cuts

    def of_lightest(self, c):
        return lightest_by_trying(self.weights, self.holders, c)

    def of_ifcrane(self, k):
        if not 1 <= k <= 1000:
            return [-22]
        return fewest_by_trying(self.weights, self.holders, k)[:1]

    def of_spare(self, i):
        return spare_by_halving(self.weights, self.holders, self.bears, i)

    def of_without(self, i):
        return without_by_trying(self.weights, self.holders, self.bears, i)

    def of_crown(self, i):
        parts = [part for part in range(len(self.weights)) if i in way_down(self.holders, part)]
        return [sum(self.weights[part] for part in parts)] + parts

    def of_boughs(self, i):
        parts = [part for part, holder in enumerate(self.holders, 1) if holder == i]
        return [len(parts)] + parts

    def of_down(self, i):
        way = way_down(self.holders, i)
        return [len(way)] + way

    def of_least(self):
        return [max(self.weights)]

    def of_look(self, i):
        return [([0] + self.holders)[i], self.weights[i]]

    def of_sums(self):
        return [sum(self.weights), -(-sum(self.weights) // self.bears)]

    def of_state(self):
        return [0, len(self.weights), self.bears]


def any_row(source):
    if source.random() < 0.75:
        return sorted(source.sample(range(1, 9), source.randint(0, 4)))
    return [source.choice((0, 1, 2, 3, 8, 9, 65535)) for at in range(source.choice((1, 2, 3, 100)))]


def any_call(source, most, name):
    part = source.choice((0, 1, 2, 3, 4, 5, 6, 7, 8, 9, LARGEST))
    heavy = source.choice([source.randint(1, most)] * 8 + [0, 50, 51, LARGEST])
    strength = source.choice([source.randint(1, most * 9)] * 8 + [most, 0, 1, 1000, 1001, LARGEST])
    row = any_row(source)
    given = {
        "begin": (heavy,), "bough": (part, heavy), "weight": (part, heavy), "crane": (strength,),
        "ifcrane": (strength,), "pieces": (row,), "heaviest": (row,), "fits": (row,), "foot": (part, row),
        "lightest": (part,), "less": (), "fewest": (), "twigs": (), "least": (), "sums": (), "state": (),
    }
    return (name,) + given.get(name, (part,))


def any_line(source):
    most = source.choice((1, 3, 10, 50))
    names = list(NAMES[1:]) * 2 + ["bough"] * 12
    calls = [any_call(source, most, source.choice(names)) for at in range(256)]
    for at in [source.randint(0, 3)] + source.sample(range(4, 256), 3):
        calls[at] = any_call(source, most, "begin")
    return calls


class LongLines(unittest.TestCase):
    def test_beside_the_plain_tree(self):
        source = random.Random(22)
        met = set()
        for turn in range(30):
            calls = any_line(source)
            plain = Plain()
            for call, found in zip(calls, ask(*calls), strict=True):
                self.assertEqual(found, plain.answer(call), (turn, call))
                met.add((call[0], min(0, found[0])))
        # What the lines are for: that each call was answered, and each of its refusals met.
        refusals = {
            "begin": (-22,), "bough": (-11, -2, -22, -28), "weight": (-11, -2, -22), "less": (-11, -6),
            "crane": (-11, -22), "pieces": (-11, -22), "heaviest": (-11, -22), "fits": (-11, -22),
            "foot": (-11, -2, -22), "fewest": (-11, -33), "twigs": (-11, -33), "ifcrane": (-11, -22, -33),
            "spare": (-11, -2, -33), "without": (-11, -2, -16, -33), "crown": (-11, -2), "boughs": (-11, -2),
            "down": (-11, -2), "look": (-11, -2),
        }
        self.assertEqual(met, {(name, number) for name in NAMES for number in (0,) + refusals.get(name, (-11,))})

    def test_the_list_is_as_it_was_and_the_answers_are_the_same_again(self):
        source = random.Random(23)
        for turn in range(10):
            line = written(any_line(source))
            kept = list(line)
            told = answers(line)
            self.assertEqual(line, kept)
            self.assertEqual(answers(line), told)
            self.assertEqual({type(number) for number in told}, {int})


if __name__ == "__main__":
    unittest.main()
