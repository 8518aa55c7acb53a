"""How the tests write calls and read what is answered."""

from borders.strips import answers

# Strips of two rows, one of each type from 0 to 6: colours; what kinds answers; what least answers.
# The first row of colours is row 0.
BY_TYPE = (
    ([1, 2, 3,
      0, 0, 0], [1, 0, 0, 0, 0], [6, 0, 1, 2, 3, 4, 5]),
    ([1, 2, 3, 0, 0, 0,
      0, 0, 0, 1, 2, 3], [1, 0, 0, 1, 3, 0], [6, 0, 1, 2, 3, 4, 5]),
    ([1, 0, 0,
      2, 2, 2], [1, 0, 1, 0, 0, 0], [4, 0, 1, 3, 4]),
    ([1, 2, 3,
      3, 2, 1], [1, 0, 0, 0, 1, 2], [3, 0, 1, 2]),
    ([1, 0,
      0, 1], [1, 0, 1, 0, 1, 1, 1, 1], [2, 0, 1]),
    ([1, 2, 3,
      1, 2, 3], [1, 0, 0, 1, 0, 0], [3, 0, 1, 2]),
    ([1, 0, 0,
      1, 0, 0], [1, 0, 1, 0, 1, 0, 1, 0], [2, 0, 1]),
)


def strip(h, colours):
    return [0, 1, h, 1, len(colours)] + colours


def period():
    return [1, 0, 0]


def kinds():
    return [2, 0, 0]


def type_of():
    return [3, 0, 0]


def least():
    return [4, 0, 0]


def paint(x, y, colour):
    return [5, 3, x, y, colour, 0]


def set_cell(x, y, colour):
    return [6, 3, x, y, colour, 0]


def make(kind, k):
    return [7, 2, kind, k, 0]


def swap(*colours):
    return [8, len(colours), *colours, 0]


def keep():
    return [9, 0, 0]


def same():
    return [10, 0, 0]


def undo():
    return [11, 0, 0]


def show():
    return [12, 0, 0]


def all_told():
    """Four calls that tell what motions a strip has and what comes of them."""
    return [period(), kinds(), type_of(), least()]


def apart(given):
    """What is given back, one list for each call."""
    found = []
    at = 0
    while at < len(given):
        end = at + 1 + given[at]
        if given[at] < 1 or end > len(given):
            raise AssertionError(f"counts do not fit at {at}: {given}")
        found.append(given[at + 1:end])
        at = end
    return found


def ask(*calls):
    """The answers to these calls, one list for each."""
    return apart(answers([number for call in calls for number in call]))
