"""Every call beside the document's words taken to the letter, over many small strips.

The strip is laid out over a wide run of columns, and motions are tried with every k of a wide run.
"""

import itertools
import unittest

from calling import (all_told, ask, keep, kinds, least, make, paint, period, same, set_cell, show, strip, swap,
                     type_of, undo)


class Plain:
    """A strip as a function of its cells, with what the words say of it."""

    def __init__(self, h, colours):
        self.h = h
        self.w = len(colours) // h
        self.rows = [list(colours[y * self.w:(y + 1) * self.w]) for y in range(h)]

    def colour(self, x, y):
        return self.rows[y][x % self.w]

    def goal(self, kind, k, x, y):
        top = self.h - 1
        return ((x + k, y), (k - x, y), (x + k, top - y), (k - x, top - y))[kind]

    def keeps(self, kind, k):
        return all(self.colour(*self.goal(kind, k, x, y)) == self.colour(x, y)
                   for x in range(-self.w, 2 * self.w) for y in range(self.h))

    def ks(self, kind, reach):
        """All k from -reach to reach with which it keeps it."""
        return [k for k in range(-reach, reach + 1) if self.keeps(kind, k)]

    def period(self):
        return min(k for k in self.ks(0, self.w) if k > 0)

    def type(self):
        one, two, three = [bool(self.ks(kind, self.w)) for kind in (1, 2, 3)]
        zero = self.keeps(2, 0)
        fitting = [number for number, fits in ((6, one and three and zero),
                                               (5, zero and not one and not three),
                                               (4, one and three and two and not zero),
                                               (3, three and not one and not two),
                                               (2, one and not two and not three),
                                               (1, two and not zero and not one and not three),
                                               (0, not one and not two and not three)) if fits]
        if len(fitting) != 1:
            raise AssertionError(f"{self.rows} has types {fitting}")
        return fitting[0]

    def along(self, cells, width):
        """For each of these cells: the cells of columns 0 to width - 1 that go along with it, itself in them."""
        # No k farther than this takes one of the cells into these columns.
        reach = max(abs(x) for x, y in cells) + width
        motions = [(kind, k) for kind in range(4) for k in self.ks(kind, reach)]
        found = []
        for x, y in cells:
            goals = {self.goal(kind, k, x, y) for kind, k in motions}
            found.append({goal for goal in goals if 0 <= goal[0] < width})
        return found

    def all_told(self):
        t = self.period()
        kinds = []
        for kind in range(4):
            within = [k for k in self.ks(kind, t) if 0 <= k < t]
            kinds += [len(within)] + within
        cells = [(x, y) for y in range(self.h) for x in range(t)]
        least = [number for number, goals in enumerate(self.along(cells, t))
                 if not any(other in goals for other in cells[:number])]
        return [[t], kinds, [self.type()], [len(least)] + least]

    def how_it_is(self):
        return [self.period(), self.type()]

    def give(self, cells, colour):
        for x, y in cells:
            self.rows[y][x % self.w] = colour
        return self.how_it_is()

    def paint(self, x, y, colour):
        cells = self.along([(x, y)], self.w)[0]
        return [len(cells)] + self.give(cells, colour)

    def with_all(self, kind, k):
        """Its motions and this one done in any order, as often as one likes: (kind, k), k counted round w columns."""
        firsts = [(kind, k)] + [(other, n) for other in range(4) for n in self.ks(other, self.w)]
        found = {(other, n % self.w) for other, n in firsts}
        while True:
            # Done ahead of (b, m), a motion (a, n) goes on by n, or back by it where b turns the columns round.
            more = {(a ^ b, (m - n if b in (1, 3) else m + n) % self.w) for a, n in found for b, m in found} | found
            if more == found:
                return found
            found = more

    def make(self, kind, k):
        motions = self.with_all(kind, k)
        cells = [(x, y) for y in range(self.h) for x in range(self.w)]
        colours = {}
        for x, y in cells:
            goals = {self.goal(other, n, x, y) for other, n in motions}
            goals = {(gx % self.w, gy) for gx, gy in goals}
            colours[(x, y)] = self.colour(*min(goals, key=cells.index))
        for (x, y), colour in colours.items():
            self.rows[y][x] = colour
        return self.how_it_is()

    def swap(self, colours):
        self.rows = [[colours[colour] for colour in row] for row in self.rows]
        return self.how_it_is()

    def same(self, kept):
        if self.h != kept.h:
            return [0]
        # After so many columns both have begun anew at once.
        columns = range(self.w * kept.w)
        for kind in range(4):
            for k in range(self.period()):
                if all(self.colour(x, y) == kept.colour(*self.goal(kind, k, x, y))
                       for y in range(self.h) for x in columns):
                    return [1, kind, k]
        return [0]

    def show(self):
        return [self.w, self.h] + [colour for row in self.rows for colour in row]

    def copy(self):
        return Plain(self.h, self.show()[2:])


class PlainLine:
    """The calls of a line, by the words alone; none of them is refused but undo."""

    def __init__(self):
        self.plain = Plain(1, [0])
        self.kept = Plain(1, [0])
        self.ahead = []

    def answer(self, call):
        number = call[0]
        numbers = call[2:2 + call[1]]
        if number in (0, 5, 6, 7, 8):
            self.ahead.append(self.plain)
            self.plain = self.plain.copy()
            return self.change(number, numbers, call)
        if number == 9:
            self.kept = self.plain.copy()
            return [self.plain.period()]
        if number == 10:
            return self.plain.same(self.kept)
        if number == 11:
            if not self.ahead:
                return [-7]
            self.plain = self.ahead.pop()
            return self.plain.how_it_is()
        if number == 12:
            return self.plain.show()
        return self.plain.all_told()[number - 1]

    def change(self, number, numbers, call):
        if number == 0:
            self.plain = Plain(numbers[0], call[5:])
            return self.plain.how_it_is()
        if number == 5:
            return self.plain.paint(*numbers)
        if number == 6:
            return self.plain.give([(numbers[0], numbers[1])], numbers[2])
        if number == 7:
            return self.plain.make(*numbers)
        return self.plain.swap(numbers)


class Numbers:
    """Whole numbers that look as if thrown, the same ones each time."""

    def __init__(self, seed):
        self.state = seed

    def below(self, end):
        self.state = (self.state * 6364136223846793005 + 1442695040888963407) % 2 ** 64
        return (self.state >> 33) % end


def some_call(numbers, h):
    """A call that fits a strip of h rows."""
    number = numbers.below(16)
    if number == 0:
        height = 1 + numbers.below(6 if numbers.below(3) == 0 else 3)
        t = 1 + numbers.below(4)
        rows = [[numbers.below(3) for x in range(t)] for y in range(height)]
        times = 1 + numbers.below(12 // t)
        return strip(height, [colour for row in rows for colour in row * times])
    x = numbers.below(2001) - 1000
    y = numbers.below(h)
    if number in (5, 13):
        return paint(x, y, numbers.below(4))
    if number in (6, 14):
        return set_cell(x, y, numbers.below(4))
    if number == 7:
        return make(numbers.below(4), x)
    if number == 8:
        return swap(*[numbers.below(4) for colour in range(10)])
    return {1: period, 2: kinds, 3: type_of, 4: least, 9: keep, 10: same, 11: undo, 12: show, 15: same}[number]()


def some_line(seed):
    """Forty calls, and what the words answer to each."""
    numbers = Numbers(seed)
    line = PlainLine()
    calls = [strip(2, [numbers.below(3) for n in range(2 * (1 + numbers.below(6)))])]
    wanted = [line.answer(calls[0])]
    while len(calls) < 40:
        calls.append(some_call(numbers, line.plain.h))
        wanted.append(line.answer(calls[-1]))
    return calls, wanted


def small_strips():
    for h, w, colours in ((1, 6, 2), (2, 4, 2), (3, 3, 2), (2, 3, 3), (4, 2, 2), (6, 1, 2)):
        for told in itertools.product(range(colours), repeat=h * w):
            yield h, list(told)


class ByDefinition(unittest.TestCase):
    def test_what_is_asked_of_small_strips(self):
        for h, colours in small_strips():
            plain = Plain(h, colours)
            wanted = plain.all_told()
            self.assertEqual(ask(strip(h, colours), *all_told()), [wanted[0] + wanted[2]] + wanted, (h, colours))

    def test_paint_and_set_on_small_strips(self):
        for turn, (h, colours) in enumerate(small_strips()):
            w = len(colours) // h
            x = turn % (2 * w) - w // 2
            y = turn // 3 % h
            painted = Plain(h, colours)
            told = [painted.paint(x, y, 2), *painted.all_told()]
            self.assertEqual(ask(strip(h, colours), paint(x, y, 2), *all_told())[1:], told, (h, colours, x, y))
            given = Plain(h, colours)
            told = [given.give([(x, y)], 1), *given.all_told()]
            self.assertEqual(ask(strip(h, colours), set_cell(x, y, 1), *all_told())[1:], told, (h, colours, x, y))

    def test_many_paints_behind_one_another(self):
        colours = [(7 * n + n * n // 3) % 4 for n in range(24)]
        for h in (2, 3, 4, 6):
            plain = Plain(h, colours)
            calls = [strip(h, colours)]
            wanted = [plain.how_it_is()]
            for n in range(30):
                x, y, colour = 5 * n - 40, n % h, n // 2 % 3
                if n % 4 == 3:
                    calls.append(set_cell(x, y, colour))
                    wanted.append(plain.give([(x, y)], colour))
                else:
                    calls.append(paint(x, y, colour))
                    wanted.append(plain.paint(x, y, colour))
            self.assertEqual(ask(*calls), wanted, h)

    def test_make_on_small_strips(self):
        for turn, (h, colours) in enumerate(small_strips()):
            w = len(colours) // h
            kind = turn % 4
            k = turn // 5 % (3 * w) - w
            plain = Plain(h, colours)
            told = [plain.make(kind, k), plain.show(), *plain.all_told()]
            self.assertEqual(ask(strip(h, colours), make(kind, k), show(), *all_told())[1:], told, (h, colours, kind, k))

    def test_every_motion_made_on_strips_of_many_colours(self):
        for h, w in ((1, 12), (2, 6), (2, 12), (3, 5), (5, 4), (6, 6)):
            colours = [(n * n // 3 + n // w) % 10 for n in range(h * w)]
            for kind in range(4):
                for k in range(-2, w + 2):
                    plain = Plain(h, colours)
                    told = [plain.make(kind, k), plain.show()]
                    self.assertEqual(ask(strip(h, colours), make(kind, k), show())[1:], told, (h, colours, kind, k))

    def test_same_of_small_strips(self):
        strips = [(h, [n >> bit & 1 for bit in range(h * w)])
                  for h, w in ((1, 1), (1, 2), (1, 4), (2, 1), (2, 2), (2, 3), (3, 1)) for n in range(2 ** (h * w))]
        for h, colours in strips:
            for kept_h, kept in strips:
                told = ask(strip(kept_h, kept), keep(), strip(h, colours), same())[3]
                self.assertEqual(told, Plain(h, colours).same(Plain(kept_h, kept)), (h, colours, kept_h, kept))

    def test_lines_of_forty_calls(self):
        met = set()
        for seed in range(60):
            calls, wanted = some_line(seed)
            self.assertEqual(ask(*calls), wanted, calls)
            met |= {call[0] for call in calls}
        self.assertEqual(met, set(range(13)))


if __name__ == "__main__":
    unittest.main()
