"""Patterns on a strip: the strip, the motions that keep it, and what the calls of a line answer.

A cell is a pair (column, row). Within columns 0 to width - 1 its number counts row by row, from 0 on.
"""

STEP = 0
MIRROR = 1
FLIPPED_STEP = 2
HALF_TURN = 3
KINDS = (0, 1, 2, 3)

MOST_ROWS = 6
MOST_COLUMNS = 12
MOST_COLOUR = 9
HOW_MANY_COLOURS = 10
FARTHEST = 1000


class Strip:
    """A strip of h rows that repeats every w columns; colours are its cells', by their numbers.

    It is never changed: what paints it makes another, so that it can be kept and come back to.
    """

    def __init__(self, h, w, colours):
        self.h = h
        self.w = w
        self.colours = colours


class Line:
    """What the calls of one line are about: the strip, the kept one, and those that undo comes back to."""

    def __init__(self):
        self.current = Strip(1, 1, [0])
        self.kept = self.current
        self.past = []


def cells_within(h, width):
    """The cells of columns 0 to width - 1, each at the place that is its number."""
    return [(number % width, number // width) for number in range(h * width)]


def number_of(cell, width):
    """The number of the cell of columns 0 to width - 1 that is a multiple of width columns from this one."""
    return cell[1] * width + cell[0] % width


def colour_at(strip, cell):
    return strip.colours[number_of(cell, strip.w)]


def moved(kind, k, cell, h):
    """Where the motion takes this cell of a strip of h rows."""
    x = cell[0]
    y = cell[1]
    if kind == MIRROR or kind == HALF_TURN:
        x = -x
    if kind == FLIPPED_STEP or kind == HALF_TURN:
        y = h - 1 - y
    return (x + k, y)


def takes(strip, other, kind, k, width):
    """Does the motion take each cell of the strip to one of its colour of the other, which is as high?

    Both repeat every width columns, so that columns 0 to width - 1 speak for all.
    """
    for cell in cells_within(strip.h, width):
        if colour_at(other, moved(kind, k, cell, strip.h)) != colour_at(strip, cell):
            return False
    return True


def keeps(strip, kind, k):
    return takes(strip, strip, kind, k, strip.w)


def period(strip):
    # This ends at w at the latest, which always keeps the strip.
    k = 1
    while not keeps(strip, STEP, k):
        k += 1
    return k


def keeping(strip, kind, width):
    """The k from 0 to width - 1 with which motions of this kind keep the strip, rising."""
    return [k for k in range(width) if keeps(strip, kind, k)]


def motions_within(strip, width):
    """The strip's motions (kind, k) with k from 0 to width - 1."""
    found = []
    for kind in KINDS:
        for k in keeping(strip, kind, width):
            found.append((kind, k))
    return found


def sort_of(strip):
    """Which of the seven sorts of pattern, 0 to 6, the strip has."""
    t = period(strip)
    mirrors = keeping(strip, MIRROR, t)
    flipped_steps = keeping(strip, FLIPPED_STEP, t)
    half_turns = keeping(strip, HALF_TURN, t)
    # Two of these kinds bring the third about, so all three or at most one are there.
    if mirrors and half_turns:
        return 6 if 0 in flipped_steps else 4
    if flipped_steps:
        return 5 if 0 in flipped_steps else 1
    if half_turns:
        return 3
    return 2 if mirrors else 0


def numbers_along(strip, motions, cell, width):
    """The numbers, rising, of the cells of columns 0 to width - 1 to which one of these motions takes this one.

    Where width is a multiple of the period and motions are the strip's within it, these are all
    that go along: any other motion differs from one of these by a multiple of width columns.
    """
    found = {}
    for kind, k in motions:
        found[number_of(moved(kind, k, cell, strip.h), width)] = True
    return sorted(found)


def least_numbers(strip):
    """The numbers of the least cells, rising."""
    t = period(strip)
    motions = motions_within(strip, t)
    found = []
    for number, cell in enumerate(cells_within(strip.h, t)):
        if numbers_along(strip, motions, cell, t)[0] == number:
            found.append(number)
    return found


def numbers_reached(strip, motions, number):
    """The numbers of the cells of columns 0 to w - 1 that one comes to from this one by these motions."""
    cells = cells_within(strip.h, strip.w)
    found = {number: True}
    waiting = [number]
    while waiting:
        cell = cells[waiting.pop()]
        for goal in numbers_along(strip, motions, cell, strip.w):
            if goal not in found:
                found[goal] = True
                waiting.append(goal)
    return sorted(found)


def with_motion(strip, kind, k):
    """The strip made to have this motion and all that it had."""
    motions = motions_within(strip, strip.w) + [(kind, k)]
    given = {}
    for number, colour in enumerate(strip.colours):
        # Numbers rise, so a cell that has been given its colour has come to one with a lesser number.
        if number not in given:
            for goal in numbers_reached(strip, motions, number):
                given[goal] = colour
    return Strip(strip.h, strip.w, [given[number] for number in range(len(strip.colours))])


def first_motion(strip, other):
    """The first motion (kind, k) that takes the strip to the other; None if they are not the same."""
    t = period(strip)
    # A motion takes a strip to one of its own period.
    if other.h != strip.h or period(other) != t:
        return None
    for kind in KINDS:
        for k in range(t):
            if takes(strip, other, kind, k, t):
                return (kind, k)
    return None


def coloured(strip, numbers, colour):
    """The strip with this colour in the cells with these numbers of columns 0 to w - 1."""
    colours = list(strip.colours)
    for number in numbers:
        colours[number] = colour
    return Strip(strip.h, strip.w, colours)


def how_it_is(strip):
    return [period(strip), sort_of(strip)]


def changed(line, strip):
    """Lets the line be about this strip, so that undo comes back; how it is then."""
    line.past.append(line.current)
    line.current = strip
    return how_it_is(strip)


def is_colour(number):
    return number >= 0 and number <= MOST_COLOUR


def are_colours(numbers):
    return all([is_colour(number) for number in numbers])


def is_near(number):
    return number >= -FARTHEST and number <= FARTHEST


def strip_fits(h, colours):
    if h < 1 or h > MOST_ROWS:
        return False
    if len(colours) == 0 or len(colours) % h != 0 or len(colours) // h > MOST_COLUMNS:
        return False
    return are_colours(colours)


def colouring_fits(strip, x, y, colour):
    return is_near(x) and y >= 0 and y < strip.h and is_colour(colour)


def answer_strip(line, numbers, lists):
    h = numbers[0]
    colours = lists[0]
    if not strip_fits(h, colours):
        return [-1]
    return changed(line, Strip(h, len(colours) // h, colours))


def answer_period(line, numbers, lists):
    return [period(line.current)]


def answer_kinds(line, numbers, lists):
    t = period(line.current)
    answer = []
    for kind in KINDS:
        found = keeping(line.current, kind, t)
        answer.append(len(found))
        answer.extend(found)
    return answer


def answer_sort(line, numbers, lists):
    return [sort_of(line.current)]


def answer_least(line, numbers, lists):
    found = least_numbers(line.current)
    return [len(found)] + found


def answer_paint(line, numbers, lists):
    strip = line.current
    if not colouring_fits(strip, numbers[0], numbers[1], numbers[2]):
        return [-1]
    along = numbers_along(strip, motions_within(strip, strip.w), (numbers[0], numbers[1]), strip.w)
    return [len(along)] + changed(line, coloured(strip, along, numbers[2]))


def answer_set_cell(line, numbers, lists):
    strip = line.current
    if not colouring_fits(strip, numbers[0], numbers[1], numbers[2]):
        return [-1]
    return changed(line, coloured(strip, [number_of((numbers[0], numbers[1]), strip.w)], numbers[2]))


def answer_make(line, numbers, lists):
    if numbers[0] not in KINDS or not is_near(numbers[1]):
        return [-1]
    return changed(line, with_motion(line.current, numbers[0], numbers[1]))


def answer_swap(line, numbers, lists):
    strip = line.current
    if len(numbers) != HOW_MANY_COLOURS or not are_colours(numbers):
        return [-1]
    return changed(line, Strip(strip.h, strip.w, [numbers[colour] for colour in strip.colours]))


def answer_keep(line, numbers, lists):
    line.kept = line.current
    return [period(line.kept)]


def answer_same(line, numbers, lists):
    motion = first_motion(line.current, line.kept)
    if motion is None:
        return [0]
    return [1, motion[0], motion[1]]


def answer_undo(line, numbers, lists):
    if not line.past:
        return [-7]
    line.current = line.past.pop()
    return how_it_is(line.current)


def answer_show(line, numbers, lists):
    return [line.current.w, line.current.h] + line.current.colours


ANSWERERS = {
    0: answer_strip,
    1: answer_period,
    2: answer_kinds,
    3: answer_sort,
    4: answer_least,
    5: answer_paint,
    6: answer_set_cell,
    7: answer_make,
    8: answer_swap,
    9: answer_keep,
    10: answer_same,
    11: answer_undo,
    12: answer_show,
}


def calls_apart(calls):
    """Each call of the list as (its number, its numbers, its lists)."""
    found = []
    at = 0
    while at < len(calls):
        call = calls[at]
        begin = at + 2
        end = begin + calls[at + 1]
        numbers = calls[begin:end]
        how_many_lists = calls[end]
        at = end + 1
        lists = []
        while len(lists) < how_many_lists:
            end = at + 1 + calls[at]
            lists.append(calls[at + 1:end])
            at = end
        found.append((call, numbers, lists))
    return found


def answers(calls):
    """For each call of the line, in order: how many numbers it answers, then these."""
    line = Line()
    given = []
    for call, numbers, lists in calls_apart(calls):
        answer = ANSWERERS[call](line, numbers, lists)
        given.append(len(answer))
        given.extend(answer)
    return given
