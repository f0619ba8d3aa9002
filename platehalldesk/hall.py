"""The calls of Platehall.

A sheet that was found without a fault is gone on with as its width w and its rows:
of each row one whole number, whose bit x is dot x.
"""

from platehalldesk.screens import Lattice, Screen, count_dots, find_tone, is_lattice, is_screen, is_tone, tint_row

MOST_BYTES = 4096
MOST_WIDE = 24
MOST_HIGH = 24
MOST_NEAR = 24
MOST_SHIFT = 24
MOST_COUNTED = 1000000000
HAS = 35
HAS_NOT = 46
LINE_END = 10


def answer(number, told, numbers):
    return [number, len(told)] + told + [len(numbers)] + numbers


def answer_bytes(told):
    return answer(len(told), told, [])


def refusal(number):
    return answer(number, [], [])


def row_size(w):
    return (w + 7) // 8


def full_row(w):
    return (1 << w) - 1


def sheet_fault(a):
    """The first fault's kind and place, or an empty list if there's none."""
    if len(a) < 2:
        return [1, len(a)]
    w = a[0] + 256 * a[1]
    if w == 0 or w > MOST_WIDE:
        return [2, 0]
    if len(a) < 4:
        return [1, len(a)]
    h = a[2] + 256 * a[3]
    if h == 0 or h > MOST_HIGH:
        return [2, 2]
    return rows_fault(a, w, h)


def rows_fault(a, w, h):
    size = row_size(w)
    last_byte_full = full_row(w - 8 * (size - 1))
    end = 4
    for y in range(h):
        end = end + size
        # A row is only looked at once it's whole: before that its end is what is met.
        if len(a) < end:
            return [1, len(a)]
        if a[end - 1] > last_byte_full:
            return [3, end - 1]
    if len(a) > end:
        return [4, end]
    return []


def drawing_fault(t):
    """The first fault's kind and place, or an empty list if there's none."""
    # Until the first line has ended, its width is only known not to be above this.
    w = MOST_WIDE
    lines = 0
    dots = 0
    for place, byte in enumerate(t):
        if byte == LINE_END:
            if dots == 0 or (lines > 0 and dots < w):
                return [2, place]
            w = dots
            lines = lines + 1
            dots = 0
        elif byte != HAS and byte != HAS_NOT:
            return [1, place]
        elif dots == w:
            return [3, place]
        elif lines == MOST_HIGH:
            return [5, place]
        else:
            dots = dots + 1
    if lines == 0 or dots > 0:
        return [4, len(t)]
    return []


def refuse_sheets(sheets):
    """The refusal of bytes that are handed over, or an empty list if all are sheets."""
    # The length of all comes before a fault of any.
    for a in sheets:
        if len(a) > MOST_BYTES:
            return refusal(-2)
    for number, a in enumerate(sheets):
        fault = sheet_fault(a)
        if fault:
            return answer(-6, [], [fault[0] + 16 * number, fault[1]])
    return []


def refuse_pair(a, b):
    refused = refuse_sheets([a, b])
    if not refused and (a[0] != b[0] or a[2] != b[2]):
        return refusal(-5)
    return refused


def sheet_rows(a):
    size = row_size(a[0])
    rows = []
    for start in range(4, len(a), size):
        row = 0
        for i in range(size):
            row = row | (a[start + i] << (8 * i))
        rows.append(row)
    return rows


def sheet_bytes(w, rows):
    told = [w, 0, len(rows), 0]
    for row in rows:
        for i in range(row_size(w)):
            told.append((row >> (8 * i)) & 255)
    return told


def row_dots(w, row):
    return [(row >> x) & 1 for x in range(w)]


def dots_row(dots):
    return sum([dot << x for x, dot in enumerate(dots)])


def drawing_rows(t):
    w = t.index(LINE_END)
    rows = []
    for start in range(0, len(t), w + 1):
        rows.append(sum([1 << x for x in range(w) if t[start + x] == HAS]))
    return rows


def join_rows(how, p, q):
    if how == 0:
        return p | q
    if how == 1:
        return p & q
    if how == 2:
        return p & ~q
    return p ^ q


def spread_row(w, row, d):
    for step in range(d):
        row = row | (row << 1) | (row >> 1)
    return row & full_row(w)


def spread_rows(w, rows, d):
    # A round is a square, so it may be gone through to the sides first, then up and down.
    wide = [spread_row(w, row, d) for row in rows]
    told = []
    for y in range(len(rows)):
        row = 0
        for near in wide[max(0, y - d):y + d + 1]:
            row = row | near
        told.append(row)
    return told


def other_rows(w, rows):
    return [full_row(w) ^ row for row in rows]


def inner_rows(w, h, d):
    """The dots whose rounds lie on the sheet wholly."""
    inner = full_row(max(0, w - 2 * d)) << d
    return [inner if d <= y and y + d < h else 0 for y in range(h)]


def shrink_rows(w, rows, d, off):
    # What's shrunk has just the dots that none of those it hasn't is near to.
    told = other_rows(w, spread_rows(w, other_rows(w, rows), d))
    if off == 1:
        return told
    return [p & q for p, q in zip(told, inner_rows(w, len(rows), d))]


def column_as_row(x, rows):
    return dots_row([(row >> x) & 1 for row in rows])


def mirrored_row(w, row):
    return dots_row(list(reversed(row_dots(w, row))))


def shifted_rows(w, rows, dx, dy):
    told = []
    for y in range(len(rows)):
        came_from = y - dy
        row = rows[came_from] if 0 <= came_from < len(rows) else 0
        moved = row << dx if dx >= 0 else row >> -dx
        told.append(moved & full_row(w))
    return told


def dot_numbers(w, rows):
    """Of each dot that's there, y w + x, in the order of places."""
    numbers = []
    for y, row in enumerate(rows):
        numbers.extend([y * w + x for x in range(w) if (row >> x) & 1])
    return numbers


def judge(a):
    refused = refuse_sheets([a])
    if refused:
        return refused
    w = a[0]
    rows = sheet_rows(a)
    dots = sum([sum(row_dots(w, row)) for row in rows])
    return answer(0, [], [w, len(rows), dots])


def draw(a):
    refused = refuse_sheets([a])
    if refused:
        return refused
    told = []
    for row in sheet_rows(a):
        told.extend([HAS if dot else HAS_NOT for dot in row_dots(a[0], row)])
        told.append(LINE_END)
    return answer_bytes(told)


def read(t):
    if len(t) > MOST_BYTES:
        return refusal(-2)
    fault = drawing_fault(t)
    if fault:
        return answer(-6, [], fault)
    return answer_bytes(sheet_bytes(t.index(LINE_END), drawing_rows(t)))


def join(how, a, b):
    refused = refuse_pair(a, b)
    if refused:
        return refused
    if how > 3:
        return refusal(-1)
    rows = [join_rows(how, p, q) for p, q in zip(sheet_rows(a), sheet_rows(b))]
    return answer_bytes(sheet_bytes(a[0], rows))


def spread(d, a):
    refused = refuse_sheets([a])
    if refused:
        return refused
    if d > MOST_NEAR:
        return refusal(-1)
    return answer_bytes(sheet_bytes(a[0], spread_rows(a[0], sheet_rows(a), d)))


def shrink(d, off, a):
    refused = refuse_sheets([a])
    if refused:
        return refused
    if d > MOST_NEAR or off > 1:
        return refusal(-1)
    return answer_bytes(sheet_bytes(a[0], shrink_rows(a[0], sheet_rows(a), d, off)))


def turn(how, a):
    refused = refuse_sheets([a])
    if refused:
        return refused
    if how > 7:
        return refusal(-1)
    w = a[0]
    rows = sheet_rows(a)
    if how & 1:
        rows = [column_as_row(x, rows) for x in range(w)]
        w = a[2]
    if how & 2:
        rows = [mirrored_row(w, row) for row in rows]
    if how & 4:
        rows = list(reversed(rows))
    return answer_bytes(sheet_bytes(w, rows))


def shift(dx, dy, a):
    refused = refuse_sheets([a])
    if refused:
        return refused
    if abs(dx) > MOST_SHIFT or abs(dy) > MOST_SHIFT:
        return refusal(-1)
    return answer_bytes(sheet_bytes(a[0], shifted_rows(a[0], sheet_rows(a), dx, dy)))


def cut(x, y, w, h, a):
    refused = refuse_sheets([a])
    if refused:
        return refused
    if w == 0 or h == 0 or x + w > a[0] or y + h > a[2]:
        return refusal(-1)
    rows = [(row >> x) & full_row(w) for row in sheet_rows(a)[y:y + h]]
    return answer_bytes(sheet_bytes(w, rows))


def first(from_place, a):
    refused = refuse_sheets([a])
    if refused:
        return refused
    if from_place >= a[0] * a[2]:
        return refusal(-1)
    for number in dot_numbers(a[0], sheet_rows(a)):
        if number >= from_place:
            return answer(number, [], [])
    return refusal(-4)


def same(a, b):
    refused = refuse_pair(a, b)
    if refused:
        return refused
    w = a[0]
    just_one = [join_rows(3, p, q) for p, q in zip(sheet_rows(a), sheet_rows(b))]
    unlike = dot_numbers(w, just_one)
    if unlike:
        return answer(0, [], [unlike[0] % w, unlike[0] // w])
    return answer(1, [], [])


def cell(a, b):
    if not is_lattice(a, b):
        return refusal(-1)
    lattice = Lattice(a, b)
    return answer(lattice.n, [], [lattice.n, lattice.p, lattice.g])


def class_number(a, b, x, y):
    if not is_lattice(a, b):
        return refusal(-1)
    return answer(Lattice(a, b).class_at(x, y), [], [])


def rank(a, b, way, x, y):
    if not is_screen(a, b, way):
        return refusal(-1)
    return answer(Screen(a, b, way).rank_at(x, y), [], [])


def table(a, b, way):
    if not is_screen(a, b, way):
        return refusal(-1)
    ranks = Screen(a, b, way).ranks
    return answer(len(ranks), [], ranks)


def tint(a, b, way, t, ox, oy, w, h):
    if not is_tone(a, b, way, t) or w == 0 or w > MOST_WIDE or h == 0 or h > MOST_HIGH:
        return refusal(-1)
    screen = Screen(a, b, way)
    rows = [dots_row(tint_row(screen, t, ox, oy + y, w)) for y in range(h)]
    return answer_bytes(sheet_bytes(w, rows))


def count(a, b, way, t, x, y, w, h):
    if not is_tone(a, b, way, t) or w > MOST_COUNTED or h > MOST_COUNTED:
        return refusal(-1)
    return answer(count_dots(Screen(a, b, way), t, x, y, w, h), [], [])


def tone(a, b, way, s):
    refused = refuse_sheets([s])
    if refused:
        return refused
    if not is_screen(a, b, way):
        return refusal(-1)
    found = find_tone(Screen(a, b, way), [row_dots(s[0], row) for row in sheet_rows(s)])
    if not found:
        return refusal(-4)
    return answer(found[0], [], found[1:])
