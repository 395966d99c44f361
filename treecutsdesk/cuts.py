"""The calls on a tree that is to come down in pieces: treecutsdesk.cuts.answers."""

NO_SUCH_PART = -2
ONE_PART_ALONE = -6
NOT_BEGUN = -11
OUT_OF_RANGE = -22
TOO_MANY = -28
CANNOT_BE = -33

MOST_PARTS = 9
HEAVIEST_PART = 50
STRONGEST_CRANE = 1000

# By its number each call: its name, how many whole numbers it has, whether a row stands behind them.
# All are here, also those that are not answered yet: before a begin each of them is refused alike.
CALLS = (
    ("begin", 1, False),
    ("bough", 2, False),
    ("weight", 2, False),
    ("less", 0, False),
    ("crane", 1, False),
    ("pieces", 0, True),
    ("heaviest", 0, True),
    ("fits", 0, True),
    ("foot", 1, True),
    ("fewest", 0, False),
    ("twigs", 0, False),
    ("lightest", 1, False),
    ("ifcrane", 1, False),
    ("spare", 1, False),
    ("without", 1, False),
    ("crown", 1, False),
    ("boughs", 1, False),
    ("down", 1, False),
    ("least", 0, False),
    ("look", 1, False),
    ("sums", 0, False),
    ("state", 0, False),
)


class Tree:
    """The parts, by number, and the crane. Without any part it is not begun."""

    def __init__(self):
        self.weights = []
        # On which part each one hangs: always on one of a lesser number, but part 0, which has 0 here.
        self.holders = []
        self.bears = STRONGEST_CRANE


def is_part(tree, i):
    return i < len(tree.weights)


def is_weight(w):
    return 1 <= w <= HEAVIEST_PART


def are_cuts(tree, row):
    """Whether a row rises, from part 1 on, and has only parts that are there."""
    before = 0
    for part in row:
        if part <= before or not is_part(tree, part):
            return False
        before = part
    return True


# What changes the tree.


def begin(tree, w):
    if not is_weight(w):
        return [OUT_OF_RANGE]
    tree.weights = [w]
    tree.holders = [0]
    tree.bears = STRONGEST_CRANE
    return [0]


def bough(tree, p, w):
    if not is_part(tree, p):
        return [NO_SUCH_PART]
    if not is_weight(w):
        return [OUT_OF_RANGE]
    if len(tree.weights) >= MOST_PARTS:
        return [TOO_MANY]
    tree.weights.append(w)
    tree.holders.append(p)
    return [len(tree.weights) - 1]


def weight(tree, i, w):
    if not is_part(tree, i):
        return [NO_SUCH_PART]
    if not is_weight(w):
        return [OUT_OF_RANGE]
    before = tree.weights[i]
    tree.weights[i] = w
    return [before]


def less(tree):
    if len(tree.weights) == 1:
        return [ONE_PART_ALONE]
    tree.weights.pop()
    tree.holders.pop()
    return [len(tree.weights)]


def crane(tree, k):
    if not 1 <= k <= STRONGEST_CRANE:
        return [OUT_OF_RANGE]
    before = tree.bears
    tree.bears = k
    return [before]


# Cuts that are told.


def feet_of_parts(tree, row):
    """For each part the foot of the piece to which it belongs."""
    feet = []
    for part, holder in enumerate(tree.holders):
        if part == 0 or part in row:
            feet.append(part)
        else:
            # A part comes behind the one that it hangs on, so that one's foot is known by now.
            feet.append(feet[holder])
    return feet


def piece_weights(tree, row):
    """How heavy the pieces are, that of part 0 first, then by the cuts."""
    totals = [0 for part in tree.weights]
    for part, piece in enumerate(feet_of_parts(tree, row)):
        totals[piece] += tree.weights[part]
    return [totals[piece] for piece in [0] + row]


def cuts_do(tree, row):
    return max(piece_weights(tree, row)) <= tree.bears


def pieces(tree, row):
    if not are_cuts(tree, row):
        return [OUT_OF_RANGE]
    found = piece_weights(tree, row)
    return [len(found)] + found


def heaviest(tree, row):
    if not are_cuts(tree, row):
        return [OUT_OF_RANGE]
    return [max(piece_weights(tree, row))]


def fits(tree, row):
    if not are_cuts(tree, row):
        return [OUT_OF_RANGE]
    return [1 if cuts_do(tree, row) else 0]


def foot(tree, i, row):
    if not is_part(tree, i):
        return [NO_SUCH_PART]
    if not are_cuts(tree, row):
        return [OUT_OF_RANGE]
    return [feet_of_parts(tree, row)[i]]


# Cuts that are looked for.


def all_cuts(tree):
    """Every row of cuts that the tree has, shorter ones first, of like ones the one that's ahead."""
    rows = [[]]
    for part in range(1, len(tree.weights)):
        rows = rows + [row + [part] for row in rows]
    return sorted(rows, key=lambda row: (len(row), row))


def fewest(tree):
    for row in all_cuts(tree):
        if cuts_do(tree, row):
            return [len(row)] + row
    return [CANNOT_BE]


def boughs_of(tree, i):
    """The parts that hang on part i itself, rising."""
    # Part 0 stands as its own holder, but isn't its own bough.
    return [part for part, holder in enumerate(tree.holders) if holder == i and part > 0]


def most_left(parts, left):
    """The part at which most is left, of like ones the first."""
    most = parts[0]
    for part in parts:
        if left[part] > left[most]:
            most = part
    return most


def cuts_from_twigs(tree):
    """The cuts made from the twigs on, rising; no part by itself may be too heavy for the crane."""
    left = list(tree.weights)
    cuts = []
    # What hangs on a part has a greater number, so from the last part down all boughs are done first.
    for part in range(len(left) - 1, -1, -1):
        hanging = boughs_of(tree, part)
        left[part] += sum([left[one] for one in hanging])
        while left[part] > tree.bears:
            off = most_left(hanging, left)
            hanging.remove(off)
            left[part] -= left[off]
            cuts.append(off)
    return sorted(cuts)


def twigs(tree):
    if max(tree.weights) > tree.bears:
        return [CANNOT_BE]
    cuts = cuts_from_twigs(tree)
    return [len(cuts)] + cuts


# A line of calls.


def change_answer(tree, name, numbers):
    if name == "bough":
        return bough(tree, numbers[0], numbers[1])
    if name == "weight":
        return weight(tree, numbers[0], numbers[1])
    if name == "less":
        return less(tree)
    return crane(tree, numbers[0])


def cuts_answer(tree, name, numbers, row):
    if name == "pieces":
        return pieces(tree, row)
    if name == "heaviest":
        return heaviest(tree, row)
    if name == "fits":
        return fits(tree, row)
    if name == "foot":
        return foot(tree, numbers[0], row)
    if name == "fewest":
        return fewest(tree)
    if name == "twigs":
        return twigs(tree)
    raise NotImplementedError(name)


def call_answer(tree, name, numbers, row):
    if name == "begin":
        return begin(tree, numbers[0])
    if not tree.weights:
        return [NOT_BEGUN]
    if name in ("bough", "weight", "less", "crane"):
        return change_answer(tree, name, numbers)
    return cuts_answer(tree, name, numbers, row)


def answers(calls):
    """What a line of calls, on a tree that is new, answers: for each how many numbers, then these."""
    tree = Tree()
    told = []
    at = 0
    while at < len(calls):
        shape = CALLS[calls[at]]
        at += 1
        numbers = calls[at:at + shape[1]]
        at += shape[1]
        row = []
        if shape[2]:
            row = calls[at + 1:at + 1 + calls[at]]
            at += 1 + len(row)
        answer = call_answer(tree, shape[0], numbers, row)
        told.append(len(answer))
        told.extend(answer)
    return told
