"""What the tests share: answers, sheets and drawings, written straight from the document's words.

Here a sheet is (w, h, dots), dots a set of (x, y); nothing of this is taken from the package.
"""

import functools

# The greatest number that may be handed in; of those that may lie below 0, the least and the greatest.
GREATEST = 18446744073709551615
LEAST_SIGNED = -9223372036854775808
GREATEST_SIGNED = 9223372036854775807

# What's above every bound of a screen's slope.
TOO_GREAT = (9, 10, 16, 64, 255, 256, 1 << 16, 1 << 31, 1 << 32, 1 << 33, 1 << 62, 1 << 63, GREATEST - 1, GREATEST)
# Slopes that are none: a is 0, or one is above 8, or n is above 64.
NO_SLOPES = ((0, 0), (0, 1), (0, 8), (9, 0), (1, 9), (9, 9), (8, 1), (1, 8), (8, 8), (7, 4), (4, 7), (6, 6), (0, 9))

GOOD = [3, 0, 2, 0, 5, 2]
OTHER_WIDTH = [4, 0, 2, 0, 5, 2]
OTHER_HEIGHT = [3, 0, 1, 0, 5]
BAD_BIT = [3, 0, 2, 0, 8, 2]
BAD_END = [3, 0, 2, 0, 5]
LONG = [3, 0, 2, 0] + [0] * 4093


class Untouched(list):
    """A list that can be read but not changed, not for a while either."""

    def refuse(self, *given, **named):
        raise AssertionError("what was handed in was changed")

    append = extend = insert = pop = remove = clear = sort = reverse = refuse
    __setitem__ = __delitem__ = __iadd__ = __imul__ = refuse


def calls(function, *given):
    """The answer of a call that must leave what is handed in as it was."""
    before = [list(g) if isinstance(g, list) else g for g in given]
    locked = [Untouched(g) if isinstance(g, list) else g for g in given]
    answer = function(*locked)
    assert [list(g) if isinstance(g, list) else g for g in locked] == before
    plain = [list(g) if isinstance(g, list) else g for g in given]
    again = function(*plain)
    assert plain == before
    assert type(again) is list and again == answer
    assert all(type(number) is int for number in again)
    # What a call gives back is the caller's own: changing it must not show anywhere.
    again.append(7)
    assert plain == before and function(*plain) == answer
    return answer


def bytes_answer(told):
    return [len(told), len(told)] + list(told) + [0]


def refusal(number):
    return [number, 0, 0]


def fault(kind, place):
    return [-6, 0, 2, kind, place]


def refused_bytes():
    """Bytes that are no sheet's, of every kind, or too many; and what's told of them."""
    return [
        ([], fault(1, 0)),
        ([3, 0, 2, 0, 5], fault(1, 5)),
        ([0, 0], fault(2, 0)),
        ([3, 0, 25, 0], fault(2, 2)),
        ([3, 0, 2, 0, 8, 2], fault(3, 4)),
        (GOOD + [0], fault(4, 6)),
        (GOOD + [0] * 4090, fault(4, 6)),
        (GOOD + [0] * 4091, refusal(-2)),
        ([255] * 5000, refusal(-2)),
    ]


def told_bytes(answer):
    return answer[2:-1]


def text(words):
    return list(words.encode("ascii"))


def picture(sheet):
    w, h, dots = sheet
    return "".join("".join("#" if (x, y) in dots else "." for x in range(w)) + "\n" for y in range(h))


def from_picture(*lines):
    dots = {(x, y) for y, line in enumerate(lines) for x, sign in enumerate(line) if sign == "#"}
    return (len(lines[0]), len(lines), dots)


def encode(sheet):
    w, h, dots = sheet
    size = (w + 7) // 8
    told = [w % 256, w // 256, h % 256, h // 256]
    for y in range(h):
        row = [0] * size
        for x in range(w):
            if (x, y) in dots:
                row[x // 8] += [1, 2, 4, 8, 16, 32, 64, 128][x % 8]
        told += row
    return told


def places(w, h):
    return [(x, y) for y in range(h) for x in range(w)]


def every_sheet(w, h):
    all_places = places(w, h)
    for number in range(1 << len(all_places)):
        yield (w, h, {place for i, place in enumerate(all_places) if number >> i & 1})


def mixed_sheet(w, h, seed, of_16=6):
    """A sheet with about of_16 in 16 of its dots, the same each time."""
    state = seed * 7919 + w * 31 + h
    dots = set()
    for place in places(w, h):
        state = (state * 6364136223846793005 + 1442695040888963407) % (1 << 64)
        if (state >> 40) % 16 < of_16:
            dots.add(place)
    return (w, h, dots)


def many_sheets():
    """Ordinary sheets and those at the edges, of many widths and heights."""
    sizes = [(1, 1), (1, 24), (24, 1), (24, 24), (3, 5), (12, 10)]
    sizes += [(w, 3) for w in (2, 7, 8, 9, 15, 16, 17, 23)] + [(5, h) for h in (2, 23)]
    for w, h in sizes:
        yield (w, h, set())
        yield (w, h, set(places(w, h)))
        for seed in range(3):
            yield mixed_sheet(w, h, seed)


def greatest_common_divisor(a, b):
    return max(d for d in range(1, 9) if a % d == 0 and b % d == 0)


def on_lattice(a, b, x, y):
    """Whether (x, y) is i (a, b) + j (-b, a): i n is a x + b y, and j n is a y - b x."""
    n = a * a + b * b
    return (a * x + b * y) % n == 0 and (a * y - b * x) % n == 0


def slopes():
    return [(a, b) for a in range(1, 9) for b in range(9) if a * a + b * b <= 64]


def screens():
    return [(a, b, way) for a, b in slopes() for way in range(3)]


@functools.lru_cache(maxsize=None)
def cell_numbers(a, b):
    """n, p, g."""
    n = a * a + b * b
    g = greatest_common_divisor(a, b)
    return n, n // g, g


def class_places(a, b):
    """Of each class, by its number, its place with x below p and y below g."""
    n, p, g = cell_numbers(a, b)
    return places(p, g)


def lattice_places(a, b, steps):
    """The lattice's places i (a, b) + j (-b, a), i and j of these steps."""
    return [(i * a - j * b, i * b + j * a) for i in steps for j in steps]


@functools.lru_cache(maxsize=None)
def class_by_rests(a, b):
    """Of places, by their rests in p, the class's number: found by moving each class along the lattice.

    The lattice has (p, 0) and (0, p), so that places with the same rests in p are of one class.
    """
    n, p, g = cell_numbers(a, b)
    assert on_lattice(a, b, p, 0) and on_lattice(a, b, 0, p)
    found = {}
    for s, t in lattice_places(a, b, range(p)):
        for number, (x, y) in enumerate(class_places(a, b)):
            found.setdefault(((x + s) % p, (y + t) % p), set()).add(number)
    assert all(len(numbers) == 1 for numbers in found.values()) and len(found) == p * p
    return {rests: min(numbers) for rests, numbers in found.items()}


def class_of(a, b, x, y):
    n, p, g = cell_numbers(a, b)
    return class_by_rests(a, b)[(x % p, y % p)]


def far_by_words(a, b, way, x, y):
    """How far (x, y) is, of many places of the lattice round it and of many numbers m."""
    if way == 2:
        return min(abs(a * y - b * x - (a * a + b * b) * m) for m in range(-80, 81))
    if way == 0:
        return min((x - s) * (x - s) + (y - t) * (y - t) for s, t in lattice_places(a, b, range(-12, 13)))
    return min(abs(x - s) + abs(y - t) for s, t in lattice_places(a, b, range(-12, 13)))


@functools.lru_cache(maxsize=None)
def ranks_by_words(a, b, way):
    """Of each class, by its number, its rank."""
    far = [far_by_words(a, b, way, x, y) for x, y in class_places(a, b)]
    order = sorted(range(len(far)), key=lambda number: (far[number], number))
    return [order.index(number) for number in range(len(far))]


def rank_by_words(a, b, way, x, y):
    return ranks_by_words(a, b, way)[class_of(a, b, x, y)]


def tint_by_words(a, b, way, t, ox, oy, w, h):
    dots = {(x, y) for x, y in places(w, h) if rank_by_words(a, b, way, x + ox, y + oy) < t}
    return (w, h, dots)
