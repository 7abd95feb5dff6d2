"""How the tests write calls and read answers: by the program's interface alone."""

from samemomentdesk.wires import answers

NEW = [0]
TOLD = [4]
WIRE = [5]


def leaf(s, t, late=0):
    return [1, s, t, late]


def move(k, s, t, late=0):
    return [2, k, s, t, late]


def shape(*pairs):
    return [3, len(pairs), *pairs]


def joint(k):
    return [6, k]


def ask(*calls):
    """One list of answers, one for each call of a single line."""
    given = [number for call in calls for number in call]
    kept = list(given)
    told = answers(given)
    if given != kept:
        raise AssertionError("the list handed in was changed")
    if type(told) is not list or any(type(number) is not int for number in told):
        raise AssertionError(f"not a list of whole numbers: {told!r}")
    found = []
    at = 0
    while at < len(told):
        found.append(told[at + 1:at + 1 + told[at]])
        at += 1 + told[at]
    if at != len(told) or len(found) != len(calls):
        raise AssertionError(f"not one answer for each of {len(calls)} calls: {told!r}")
    return found


def ask_last(*calls):
    """The answer to the last of the calls."""
    return ask(*calls)[-1]


def random_pairs(chance, n):
    """The pairs of some shape over n leaves, in whatever order they may be told."""
    loose = list(range(n))
    numbers = []
    for k in range(n - 1):
        for side in range(2):
            numbers.append(loose.pop(chance.randrange(len(loose))))
        loose.append(n + k)
    return numbers
