"""Screens: a lattice's classes, how far they are, and the ranks by which a tone is printed."""

MOST_SLOPE = 8
MOST_CLASSES = 64
MOST_WAY = 2


def is_lattice(a, b):
    return 1 <= a <= MOST_SLOPE and b <= MOST_SLOPE and a * a + b * b <= MOST_CLASSES


def is_screen(a, b, way):
    return is_lattice(a, b) and way <= MOST_WAY


def is_tone(a, b, way, t):
    return is_screen(a, b, way) and t <= a * a + b * b


def common_divisor(a, b):
    while b > 0:
        rest = a % b
        a = b
        b = rest
    return a


class Lattice:
    """All places i (a, b) + j (-b, a)."""

    def __init__(self, a, b):
        self.a = a
        self.b = b
        self.n = a * a + b * b
        self.g = common_divisor(a, b)
        self.p = self.n // self.g
        self.slant = self.find_slant()

    # A place is i (a, b) + j (-b, a) with i n = along and j n = across, whole or not.
    def along(self, x, y):
        return self.a * x + self.b * y

    def across(self, x, y):
        return self.a * y - self.b * x

    def has_place(self, x, y):
        return self.along(x, y) % self.n == 0 and self.across(x, y) % self.n == 0

    def find_slant(self):
        """The x, below p, of the lattice's place in row g."""
        x = 0
        while not self.has_place(x, self.g):
            x = x + 1
        return x

    def class_at(self, x, y):
        # The lattice has (slant, g) and (p, 0): by steps of the first a place comes to y below g, then to x below p.
        steps = y // self.g
        return (y % self.g) * self.p + (x - steps * self.slant) % self.p

    def class_place(self, number):
        return (number % self.p, number // self.p)


def corner_steps(lattice, x, y):
    """Steps from (x, y) to the corners of the lattice's square in which it lies."""
    i = lattice.along(x, y) // lattice.n
    j = lattice.across(x, y) // lattice.n
    steps = []
    for corner in ((i, j), (i + 1, j), (i, j + 1), (i + 1, j + 1)):
        s = corner[0] * lattice.a - corner[1] * lattice.b
        t = corner[0] * lattice.b + corner[1] * lattice.a
        steps.append((abs(x - s), abs(y - t)))
    return steps


def how_far(lattice, way, x, y):
    if way == 2:
        rest = lattice.across(x, y) % lattice.n
        return min(rest, lattice.n - rest)
    # One corner is, by both ways, within a side's length; what's not a corner is no nearer than that.
    steps = corner_steps(lattice, x, y)
    if way == 0:
        return min([step[0] * step[0] + step[1] * step[1] for step in steps])
    return min([step[0] + step[1] for step in steps])


def class_ranks(lattice, way):
    """Of each class, by its number, its rank."""
    order = []
    for number in range(lattice.n):
        place = lattice.class_place(number)
        order.append((how_far(lattice, way, place[0], place[1]), number))
    ranks = [0] * lattice.n
    for position, pair in enumerate(sorted(order)):
        ranks[pair[1]] = position
    return ranks


class Screen(Lattice):
    """A lattice and its classes' ranks by one way."""

    def __init__(self, a, b, way):
        Lattice.__init__(self, a, b)
        self.ranks = class_ranks(self, way)

    def rank_at(self, x, y):
        return self.ranks[self.class_at(x, y)]


def tint_row(screen, t, x, y, w):
    """The dots of a tint's row, w from (x, y) on: 1 or 0 for each."""
    return [1 if screen.rank_at(x + i, y) < t else 0 for i in range(w)]


def count_dots(screen, t, x, y, w, h):
    # The lattice has (p, 0) and, as it's the same when turned by a quarter, (0, p): so every p-th row is the same.
    p = screen.p
    dots = 0
    for j in range(min(h, p)):
        row = tint_row(screen, t, x, y + j, p)
        alike = (h - 1 - j) // p + 1
        dots = dots + alike * (w // p * sum(row) + sum(row[:w % p]))
    return dots


def least_tone(screen, x, y, rows):
    """The least tone that with the offsets x, y prints these rows of dots, or -1 if none does."""
    least = 0
    most = screen.n
    for j, row in enumerate(rows):
        for i, dot in enumerate(row):
            met = screen.rank_at(x + i, y + j)
            if dot:
                least = max(least, met + 1)
            else:
                most = min(most, met)
    return least if least <= most else -1


def find_tone(screen, rows):
    """The least tone that prints these rows of dots, x and y of its first class; or an empty list if none does."""
    found = []
    for number in range(screen.n):
        place = screen.class_place(number)
        t = least_tone(screen, place[0], place[1], rows)
        if t >= 0 and (not found or t < found[0]):
            found = [t, place[0], place[1]]
    return found
