"""The calls on a tree that is to come down in pieces: treecutsdesk.cuts.answers."""

NO_SUCH_PART = -2
ONE_PART_ALONE = -6
NOT_BEGUN = -11
TRUNKS_FOOT = -16
OUT_OF_RANGE = -22
TOO_MANY = -28
CANNOT_BE = -33

MOST_PARTS = 9
HEAVIEST_PART = 50
STRONGEST_CRANE = 1000
MOST_SPARE = 200


class Tree:
    """The parts, by number, and the crane. Without any part it is not begun."""

    def __init__(self):
        self.weights = []
        # On which part each one hangs: always on one of a lesser number, but part 0, which has 0 here.
        self.holders = []
        self.bears = STRONGEST_CRANE


def is_part(tree, i):
    return i < len(tree.weights)


def is_weight(w):
    return 1 <= w <= HEAVIEST_PART


def is_strength(k):
    return 1 <= k <= STRONGEST_CRANE


def are_cuts(tree, row):
    """Whether a row rises, from part 1 on, and has only parts that are there."""
    before = 0
    for part in row:
        if part <= before or not is_part(tree, part):
            return False
        before = part
    return True


# What changes the tree.


def begin(tree, w):
    if not is_weight(w):
        return [OUT_OF_RANGE]
    tree.weights = [w]
    tree.holders = [0]
    tree.bears = STRONGEST_CRANE
    return [0]


def bough(tree, p, w):
    if not is_part(tree, p):
        return [NO_SUCH_PART]
    if not is_weight(w):
        return [OUT_OF_RANGE]
    if len(tree.weights) >= MOST_PARTS:
        return [TOO_MANY]
    tree.weights.append(w)
    tree.holders.append(p)
    return [len(tree.weights) - 1]


def weight(tree, i, w):
    if not is_part(tree, i):
        return [NO_SUCH_PART]
    if not is_weight(w):
        return [OUT_OF_RANGE]
    before = tree.weights[i]
    tree.weights[i] = w
    return [before]


def less(tree):
    if len(tree.weights) == 1:
        return [ONE_PART_ALONE]
    tree.weights.pop()
    tree.holders.pop()
    return [len(tree.weights)]


def crane(tree, k):
    if not is_strength(k):
        return [OUT_OF_RANGE]
    before = tree.bears
    tree.bears = k
    return [before]


# Cuts that are told.


def feet_of_parts(tree, row):
    """For each part the foot of the piece to which it belongs."""
    feet = []
    for part, holder in enumerate(tree.holders):
        if part == 0 or part in row:
            feet.append(part)
        else:
            # A part comes behind the one that it hangs on, so that one's foot is known by now.
            feet.append(feet[holder])
    return feet


def piece_weights(tree, row):
    """How heavy the pieces are, that of part 0 first, then by the cuts."""
    totals = [0 for part in tree.weights]
    for part, piece in enumerate(feet_of_parts(tree, row)):
        totals[piece] += tree.weights[part]
    return [totals[piece] for piece in [0] + row]


def cuts_do(tree, row):
    return max(piece_weights(tree, row)) <= tree.bears


def pieces(tree, row):
    if not are_cuts(tree, row):
        return [OUT_OF_RANGE]
    found = piece_weights(tree, row)
    return [len(found)] + found


def heaviest(tree, row):
    if not are_cuts(tree, row):
        return [OUT_OF_RANGE]
    return [max(piece_weights(tree, row))]


def fits(tree, row):
    if not are_cuts(tree, row):
        return [OUT_OF_RANGE]
    return [1 if cuts_do(tree, row) else 0]


def foot(tree, i, row):
    if not is_part(tree, i):
        return [NO_SUCH_PART]
    if not are_cuts(tree, row):
        return [OUT_OF_RANGE]
    return [feet_of_parts(tree, row)[i]]


# Cuts that are looked for.


def all_cuts(tree):
    """Every row of cuts that the tree has, shorter ones first, of like ones the one that's ahead."""
    rows = [[]]
    for part in range(1, len(tree.weights)):
        rows = rows + [row + [part] for row in rows]
    return sorted(rows, key=lambda row: (len(row), row))


def fewest(tree):
    for row in all_cuts(tree):
        if cuts_do(tree, row):
            return [len(row)] + row
    return [CANNOT_BE]


def boughs_of(tree, i):
    """The parts that hang on part i itself, rising."""
    # Part 0 stands as its own holder, but isn't its own bough.
    return [part for part, holder in enumerate(tree.holders) if holder == i and part > 0]


def most_left(parts, left):
    """The part at which most is left, of like ones the first."""
    most = parts[0]
    for part in parts:
        if left[part] > left[most]:
            most = part
    return most


def cuts_from_twigs(tree):
    """The cuts made from the twigs on, rising; no part by itself may be too heavy for the crane."""
    left = list(tree.weights)
    cuts = []
    # What hangs on a part has a greater number, so from the last part down all boughs are done first.
    for part in range(len(left) - 1, -1, -1):
        hanging = boughs_of(tree, part)
        left[part] += sum([left[one] for one in hanging])
        while left[part] > tree.bears:
            off = most_left(hanging, left)
            hanging.remove(off)
            left[part] -= left[off]
            cuts.append(off)
    return sorted(cuts)


def twigs(tree):
    if max(tree.weights) > tree.bears:
        return [CANNOT_BE]
    cuts = cuts_from_twigs(tree)
    return [len(cuts)] + cuts


def lightest(tree, c):
    rows = [row for row in all_cuts(tree) if len(row) <= c]
    # Of rows that are as good the one ahead need not be the shortest: 1, 3 is ahead of 2.
    best = min(rows, key=lambda row: (max(piece_weights(tree, row)), row))
    return [max(piece_weights(tree, best))] + best


# What would be, were something else.


def copy_of(tree):
    other = Tree()
    other.weights = list(tree.weights)
    other.holders = list(tree.holders)
    other.bears = tree.bears
    return other


def ifcrane(tree, k):
    if not is_strength(k):
        return [OUT_OF_RANGE]
    other = copy_of(tree)
    other.bears = k
    return fewest(other)[:1]


def room_beside(tree, i, row):
    """How much more the crane bears than the piece weighs to which part i belongs."""
    feet = feet_of_parts(tree, row)
    return tree.bears - sum([tree.weights[part] for part, piece in enumerate(feet) if piece == feet[i]])


def spare(tree, i):
    if not is_part(tree, i):
        return [NO_SUCH_PART]
    count = fewest(tree)[0]
    if count == CANNOT_BE:
        return [CANNOT_BE]
    # Where part i is heavier no other rows do than now, so the fewest are as many until the last of these fails.
    rows = [row for row in all_cuts(tree) if len(row) == count and cuts_do(tree, row)]
    return [min(MOST_SPARE, max([room_beside(tree, i, row) for row in rows]))]


def without(tree, i):
    if not is_part(tree, i):
        return [NO_SUCH_PART]
    if i == 0:
        return [TRUNKS_FOOT]
    other = copy_of(tree)
    other.weights[i] = 0
    return fewest(other)[:1]


# The tree as it stands.


def crown_of(tree, i):
    """Part i, and all that hangs on it, on what hangs on it, and so on, rising."""
    found = [i]
    # What hangs on a part has a greater number, so one walk upwards comes by all of them.
    for part in range(i + 1, len(tree.weights)):
        if tree.holders[part] in found:
            found.append(part)
    return found


def crown(tree, i):
    if not is_part(tree, i):
        return [NO_SUCH_PART]
    found = crown_of(tree, i)
    return [sum([tree.weights[part] for part in found])] + found


def boughs(tree, i):
    if not is_part(tree, i):
        return [NO_SUCH_PART]
    found = boughs_of(tree, i)
    return [len(found)] + found


def down(tree, i):
    if not is_part(tree, i):
        return [NO_SUCH_PART]
    way = [i]
    while way[-1] > 0:
        way.append(tree.holders[way[-1]])
    return [len(way)] + way


def least(tree):
    return [max(tree.weights)]


def look(tree, i):
    if not is_part(tree, i):
        return [NO_SUCH_PART]
    return [tree.holders[i], tree.weights[i]]


def sums(tree):
    total = sum(tree.weights)
    return [total, (total + tree.bears - 1) // tree.bears]


def state(tree):
    return [0, len(tree.weights), tree.bears]


# A line of calls.

# By its number each call: what answers it, how many whole numbers it has, whether a row stands behind them.
CALLS = (
    (begin, 1, False),
    (bough, 2, False),
    (weight, 2, False),
    (less, 0, False),
    (crane, 1, False),
    (pieces, 0, True),
    (heaviest, 0, True),
    (fits, 0, True),
    (foot, 1, True),
    (fewest, 0, False),
    (twigs, 0, False),
    (lightest, 1, False),
    (ifcrane, 1, False),
    (spare, 1, False),
    (without, 1, False),
    (crown, 1, False),
    (boughs, 1, False),
    (down, 1, False),
    (least, 0, False),
    (look, 1, False),
    (sums, 0, False),
    (state, 0, False),
)
BEGIN = 0


def call_answer(tree, number, given):
    """What the call of that number answers; given are its whole numbers, then its row if it has one."""
    if number != BEGIN and not tree.weights:
        return [NOT_BEGUN]
    call = CALLS[number][0]
    if len(given) == 0:
        return call(tree)
    if len(given) == 1:
        return call(tree, given[0])
    return call(tree, given[0], given[1])


def answers(calls):
    """What a line of calls, on a tree that is new, answers: for each how many numbers, then these."""
    tree = Tree()
    told = []
    at = 0
    while at < len(calls):
        number = calls[at]
        at += 1
        given = calls[at:at + CALLS[number][1]]
        at += len(given)
        if CALLS[number][2]:
            row = calls[at + 1:at + 1 + calls[at]]
            at += 1 + len(row)
            given.append(row)
        answer = call_answer(tree, number, given)
        told.append(len(answer))
        told.extend(answer)
    return told
