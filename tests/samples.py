"""Books and days to hand in, and what the document asks of any book."""

import copy
import itertools
import random

THINGS = ("pen", "ink", "cup", "a", "zz")


def thing_of(desk, number):
    """The thing on a slip, one for each desk and number, so that books made apart can be merged."""
    return THINGS[(desk * 3 + number * number) % len(THINGS)]


def book_of(count, length):
    """A book of many slips: on each desk every third slip was taken out."""
    heard = [0] * count
    slips = []
    step = 0
    while len(slips) < length:
        desk = step * 7 % count
        heard[desk] += 1
        if heard[desk] % 3 != 0:
            slips.append((desk, heard[desk], THINGS[step * step % 5]))
        step += 1
    return (heard, sorted(slips))


def sample_books():
    """Fresh books by name; each keeps to point 3."""
    return {
        "one desk, empty": ([0], []),
        "three desks, empty": ([0, 0, 0], []),
        "forty desks, empty": ([0] * 40, []),
        "forty-three desks, empty": ([0] * 43, []),
        "one desk": ([3], [(0, 1, "pen"), (0, 2, "ink"), (0, 3, "pen")]),
        "three desks": (
            [3, 2, 1],
            [(0, 1, "pen"), (0, 2, "ink"), (0, 3, "cup"), (1, 1, "pen"), (1, 2, "cup"), (2, 1, "pen")],
        ),
        "one thing on all slips": (
            [2, 1, 2],
            [(0, 1, "pen"), (0, 2, "pen"), (1, 1, "pen"), (2, 1, "pen"), (2, 2, "pen")],
        ),
        "a middle desk without slips": ([1, 0, 1], [(0, 1, "pen"), (2, 1, "ink")]),
        "first slips taken out": ([5, 4, 3], [(0, 4, "ink"), (1, 2, "pen"), (1, 3, "ink"), (2, 3, "pen")]),
        "last slips taken out": ([5, 4, 3], [(0, 1, "ink"), (1, 1, "pen"), (2, 1, "cup"), (2, 2, "pen")]),
        "all slips taken out": ([5, 0, 12], []),
        "one desk's slips taken out": ([2, 6, 1], [(0, 1, "pen"), (0, 2, "ink"), (2, 1, "pen")]),
        "numbers of one and two digits": (
            [11, 10],
            [(0, 2, "pen"), (0, 9, "ink"), (0, 10, "cup"), (1, 9, "pen"), (1, 10, "ink")],
        ),
        "desks of one and two digits": (
            [1, 1, 1, 0, 0, 0, 0, 0, 0, 1, 1, 1],
            [(0, 1, "pen"), (1, 1, "ink"), (2, 1, "cup"), (9, 1, "pen"), (10, 1, "ink"), (11, 1, "cup")],
        ),
        "large numbers": (
            [10 ** 9, 10 ** 40, 10 ** 40 + 1, 2],
            [
                (0, 1, "pen"), (0, 10 ** 9, "ink"),
                (1, 10 ** 9, "pen"), (1, 10 ** 40 - 1, "cup"), (1, 10 ** 40, "pen"),
                (2, 10 ** 40, "ink"), (2, 10 ** 40 + 1, "pen"),
                (3, 2, "cup"),
            ],
        ),
        "large numbers, all taken out": ([10 ** 40, 10 ** 9], []),
        "two hundred slips": book_of(8, 200),
        "two hundred slips, one desk": book_of(1, 200),
        "two hundred and thirty slips, forty desks": book_of(40, 230),
    }


def drawn_book(seed, count, numbers, length):
    """A book with at most so many slips, drawn from these numbers."""
    draw = random.Random(seed)
    heard = [draw.choice((0,) + numbers) for desk in range(count)]
    places = [(desk, number) for desk in range(count) for number in numbers if number <= heard[desk]]
    lying = draw.sample(places, min(length, len(places) * draw.randint(1, 4) // 4))
    return (heard, [(desk, number, thing_of(desk, number)) for desk, number in sorted(lying)])


def small_books(count, most):
    """Every book of so many desks that has heard of at most so many slips of each."""
    parts = []
    for heard in range(most + 1):
        for picks in itertools.product((False, True), repeat=heard):
            parts.append((heard, [number + 1 for number, pick in enumerate(picks) if pick]))
    for choice in itertools.product(parts, repeat=count):
        slips = []
        for desk, part in enumerate(choice):
            slips.extend((desk, number, thing_of(desk, number)) for number in part[1])
        yield ([part[0] for part in choice], slips)


def families():
    """Fresh lists of books by name; those of one list are of the same desks and can be merged."""
    small = tuple(range(1, 13))
    large = (1, 2, 9, 10, 10 ** 9, 10 ** 40 - 1, 10 ** 40, 10 ** 40 + 1)
    many = tuple(range(1, 400))
    return {
        "one desk": [drawn_book(seed, 1, small, 12) for seed in range(8)],
        "three desks": [drawn_book(seed, 3, small, 36) for seed in range(8)],
        "three desks, large numbers": [drawn_book(seed, 3, large, 24) for seed in range(8)],
        "forty desks": [drawn_book(seed, 40, small, 200) for seed in range(4)],
        "forty-three desks, large numbers": [drawn_book(seed, 43, large, 230) for seed in range(4)],
        "two hundred slips, one desk": [drawn_book(seed, 1, many, 200) for seed in range(3, 11)],
        "two hundred and thirty slips, five desks": [drawn_book(seed, 5, many, 230) for seed in range(4)],
        "empty and not, four desks": [([0] * 4, []), drawn_book(1, 4, small, 48), ([12] * 4, [])],
    }


def day_of(seed, count, length, things=THINGS):
    """Deeds drawn for a day; how often each kind comes differs from day to day."""
    draw = random.Random(seed)
    weights = [draw.randint(1, 5) for kind in range(3)]
    deeds = []
    for kind in draw.choices(("put", "take", "hear"), weights, k=length):
        desk = draw.randrange(count)
        deeds.append((kind, desk, draw.randrange(count) if kind == "hear" else draw.choice(things)))
    return deeds


def check_book(case, book):
    """The kinds, the order and the bounds of points 2 and 3."""
    case.assertIs(type(book), tuple)
    case.assertEqual(len(book), 2)
    heard, slips = book
    case.assertIs(type(heard), list)
    case.assertIs(type(slips), list)
    for number in heard:
        case.assertIs(type(number), int)
        case.assertGreaterEqual(number, 0)
    for slip in slips:
        case.assertIs(type(slip), tuple)
        case.assertEqual([type(part) for part in slip], [int, int, str])
        case.assertIn(slip[0], range(len(heard)))
        case.assertTrue(1 <= slip[1] <= heard[slip[0]])
    places = [slip[:2] for slip in slips]
    case.assertEqual(places, sorted(set(places)))


class Witness:
    """Remembers a book as it was handed in, with the very lists it holds."""

    def __init__(self, book):
        self.book = book
        self.parts = list(book)
        self.slips = list(book[1])
        self.copy = copy.deepcopy(book)

    def check_unchanged(self, case):
        case.assertEqual(self.book, self.copy)
        for part, before in zip(self.book, self.parts):
            case.assertIs(part, before)
        for slip, before in zip(self.book[1], self.slips):
            case.assertIs(slip, before)
