"""Every call beside the document's words taken to the letter, over many small strips.

The strip is laid out over a wide run of columns, and motions are tried with every k of a wide run.
"""

import itertools
import unittest

from calling import all_told, ask, paint, set_cell, strip


class Plain:
    """A strip as a function of its cells, with what the words say of it."""

    def __init__(self, h, colours):
        self.h = h
        self.w = len(colours) // h
        self.rows = [list(colours[y * self.w:(y + 1) * self.w]) for y in range(h)]

    def colour(self, x, y):
        return self.rows[y][x % self.w]

    def goal(self, kind, k, x, y):
        top = self.h - 1
        return ((x + k, y), (k - x, y), (x + k, top - y), (k - x, top - y))[kind]

    def keeps(self, kind, k):
        return all(self.colour(*self.goal(kind, k, x, y)) == self.colour(x, y)
                   for x in range(-self.w, 2 * self.w) for y in range(self.h))

    def ks(self, kind, reach):
        """All k from -reach to reach with which it keeps it."""
        return [k for k in range(-reach, reach + 1) if self.keeps(kind, k)]

    def period(self):
        return min(k for k in self.ks(0, self.w) if k > 0)

    def type(self):
        one, two, three = [bool(self.ks(kind, self.w)) for kind in (1, 2, 3)]
        zero = self.keeps(2, 0)
        fitting = [number for number, fits in ((6, one and three and zero),
                                               (5, zero and not one and not three),
                                               (4, one and three and two and not zero),
                                               (3, three and not one and not two),
                                               (2, one and not two and not three),
                                               (1, two and not zero and not one and not three),
                                               (0, not one and not two and not three)) if fits]
        if len(fitting) != 1:
            raise AssertionError(f"{self.rows} has types {fitting}")
        return fitting[0]

    def along(self, cells, width):
        """For each of these cells: the cells of columns 0 to width - 1 that go along with it, itself in them."""
        # No k farther than this takes one of the cells into these columns.
        reach = max(abs(x) for x, y in cells) + width
        motions = [(kind, k) for kind in range(4) for k in self.ks(kind, reach)]
        found = []
        for x, y in cells:
            goals = {self.goal(kind, k, x, y) for kind, k in motions}
            found.append({goal for goal in goals if 0 <= goal[0] < width})
        return found

    def all_told(self):
        t = self.period()
        kinds = []
        for kind in range(4):
            within = [k for k in self.ks(kind, t) if 0 <= k < t]
            kinds += [len(within)] + within
        cells = [(x, y) for y in range(self.h) for x in range(t)]
        least = [number for number, goals in enumerate(self.along(cells, t))
                 if not any(other in goals for other in cells[:number])]
        return [[t], kinds, [self.type()], [len(least)] + least]

    def how_it_is(self):
        return [self.period(), self.type()]

    def give(self, cells, colour):
        for x, y in cells:
            self.rows[y][x % self.w] = colour
        return self.how_it_is()

    def paint(self, x, y, colour):
        cells = self.along([(x, y)], self.w)[0]
        return [len(cells)] + self.give(cells, colour)


def small_strips():
    for h, w, colours in ((1, 6, 2), (2, 4, 2), (3, 3, 2), (2, 3, 3), (4, 2, 2), (6, 1, 2)):
        for told in itertools.product(range(colours), repeat=h * w):
            yield h, list(told)


class ByDefinition(unittest.TestCase):
    def test_what_is_asked_of_small_strips(self):
        for h, colours in small_strips():
            plain = Plain(h, colours)
            wanted = plain.all_told()
            self.assertEqual(ask(strip(h, colours), *all_told()), [wanted[0] + wanted[2]] + wanted, (h, colours))

    def test_paint_and_set_on_small_strips(self):
        for turn, (h, colours) in enumerate(small_strips()):
            w = len(colours) // h
            x = turn % (2 * w) - w // 2
            y = turn // 3 % h
            painted = Plain(h, colours)
            told = [painted.paint(x, y, 2), *painted.all_told()]
            self.assertEqual(ask(strip(h, colours), paint(x, y, 2), *all_told())[1:], told, (h, colours, x, y))
            given = Plain(h, colours)
            told = [given.give([(x, y)], 1), *given.all_told()]
            self.assertEqual(ask(strip(h, colours), set_cell(x, y, 1), *all_told())[1:], told, (h, colours, x, y))

    def test_many_paints_behind_one_another(self):
        colours = [(7 * n + n * n // 3) % 4 for n in range(24)]
        for h in (2, 3, 4, 6):
            plain = Plain(h, colours)
            calls = [strip(h, colours)]
            wanted = [plain.how_it_is()]
            for n in range(30):
                x, y, colour = 5 * n - 40, n % h, n // 2 % 3
                if n % 4 == 3:
                    calls.append(set_cell(x, y, colour))
                    wanted.append(plain.give([(x, y)], colour))
                else:
                    calls.append(paint(x, y, colour))
                    wanted.append(plain.paint(x, y, colour))
            self.assertEqual(ask(*calls), wanted, h)


if __name__ == "__main__":
    unittest.main()
