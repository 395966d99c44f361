"""Lines of calls, written by name, for the tests."""

from treecutsdesk.cuts import answers

NAMES = (
    "begin", "bough", "weight", "less", "crane", "pieces", "heaviest", "fits", "foot", "fewest", "twigs",
    "lightest", "ifcrane", "spare", "without", "crown", "boughs", "down", "least", "look", "sums", "state",
)


def written(calls):
    """The list that is handed in, of calls like ("foot", 3, [1, 2])."""
    line = []
    for call in calls:
        line.append(NAMES.index(call[0]))
        for given in call[1:]:
            if isinstance(given, list):
                line.append(len(given))
                line.extend(given)
            else:
                line.append(given)
    return line


def parted(told):
    """The answers, a list for each call, of the list that is given back."""
    found = []
    at = 0
    while at < len(told):
        found.append(told[at + 1:at + 1 + told[at]])
        at += 1 + told[at]
    return found


def ask(*calls):
    """What each of the calls answers, in order."""
    if not 1 <= len(calls) <= 256:
        raise AssertionError(f"a line has from 1 to 256 calls, not {len(calls)}")
    found = parted(answers(written(calls)))
    if len(found) != len(calls):
        raise AssertionError(f"{len(found)} answers to {len(calls)} calls")
    return found


def tree(weights, holders, bears=1000):
    """Calls that make a tree: part 0 has no holder, so holders begins with part 1's."""
    calls = [("begin", weights[0])]
    for holder, heavy in zip(holders, weights[1:], strict=True):
        calls.append(("bough", holder, heavy))
    calls.append(("crane", bears))
    return calls


def last(made, *calls):
    """What the last of the calls answers, on a tree that was made as told."""
    return ask(*made, *calls)[-1]


def seen(made):
    """All that the answers show of a tree of at most 9 parts: its weights, what hangs on what, its crane."""
    return ask(*made, *looks())[len(made):]


def looks():
    """Calls that show a tree whole, and change nothing."""
    calls = [("state",), ("sums",), ("least",), ("fewest",), ("twigs",)]
    calls += [(name, i) for name in ("look", "crown", "boughs", "down") for i in range(9)]
    calls += [("pieces", list(range(1, count))) for count in range(1, 10)]
    calls += [("pieces", [part]) for part in range(1, 9)]
    calls += [("foot", i, [part]) for part in range(1, 9) for i in range(9)]
    return calls
