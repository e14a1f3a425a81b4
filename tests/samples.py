"""Books to hand in, and what the document asks of any book."""

import copy


def book_of(count, length):
    """A book of many slips: on each desk every third slip was taken out."""
    heard = [0] * count
    slips = []
    step = 0
    while len(slips) < length:
        desk = step * 7 % count
        heard[desk] += 1
        if heard[desk] % 3 != 0:
            slips.append((desk, heard[desk], ("pen", "ink", "cup", "a", "zz")[step * step % 5]))
        step += 1
    return (heard, sorted(slips))


def sample_books():
    """Fresh books by name; each keeps to point 3."""
    return {
        "one desk, empty": ([0], []),
        "three desks, empty": ([0, 0, 0], []),
        "forty desks, empty": ([0] * 40, []),
        "forty-three desks, empty": ([0] * 43, []),
        "one desk": ([3], [(0, 1, "pen"), (0, 2, "ink"), (0, 3, "pen")]),
        "three desks": (
            [3, 2, 1],
            [(0, 1, "pen"), (0, 2, "ink"), (0, 3, "cup"), (1, 1, "pen"), (1, 2, "cup"), (2, 1, "pen")],
        ),
        "one thing on all slips": (
            [2, 1, 2],
            [(0, 1, "pen"), (0, 2, "pen"), (1, 1, "pen"), (2, 1, "pen"), (2, 2, "pen")],
        ),
        "a middle desk without slips": ([1, 0, 1], [(0, 1, "pen"), (2, 1, "ink")]),
        "first slips taken out": ([5, 4, 3], [(0, 4, "ink"), (1, 2, "pen"), (1, 3, "ink"), (2, 3, "pen")]),
        "last slips taken out": ([5, 4, 3], [(0, 1, "ink"), (1, 1, "pen"), (2, 1, "cup"), (2, 2, "pen")]),
        "all slips taken out": ([5, 0, 12], []),
        "one desk's slips taken out": ([2, 6, 1], [(0, 1, "pen"), (0, 2, "ink"), (2, 1, "pen")]),
        "numbers of one and two digits": (
            [11, 10],
            [(0, 2, "pen"), (0, 9, "ink"), (0, 10, "cup"), (1, 9, "pen"), (1, 10, "ink")],
        ),
        "desks of one and two digits": (
            [1, 1, 1, 0, 0, 0, 0, 0, 0, 1, 1, 1],
            [(0, 1, "pen"), (1, 1, "ink"), (2, 1, "cup"), (9, 1, "pen"), (10, 1, "ink"), (11, 1, "cup")],
        ),
        "large numbers": (
            [10 ** 9, 10 ** 40, 10 ** 40 + 1, 2],
            [
                (0, 1, "pen"), (0, 10 ** 9, "ink"),
                (1, 10 ** 9, "pen"), (1, 10 ** 40 - 1, "cup"), (1, 10 ** 40, "pen"),
                (2, 10 ** 40, "ink"), (2, 10 ** 40 + 1, "pen"),
                (3, 2, "cup"),
            ],
        ),
        "large numbers, all taken out": ([10 ** 40, 10 ** 9], []),
        "two hundred slips": book_of(8, 200),
        "two hundred slips, one desk": book_of(1, 200),
        "two hundred and thirty slips, forty desks": book_of(40, 230),
    }


def check_book(case, book):
    """The kinds, the order and the bounds of points 2 and 3."""
    case.assertIs(type(book), tuple)
    case.assertEqual(len(book), 2)
    heard, slips = book
    case.assertIs(type(heard), list)
    case.assertIs(type(slips), list)
    for number in heard:
        case.assertIs(type(number), int)
        case.assertGreaterEqual(number, 0)
    for slip in slips:
        case.assertIs(type(slip), tuple)
        case.assertEqual([type(part) for part in slip], [int, int, str])
        case.assertIn(slip[0], range(len(heard)))
        case.assertTrue(1 <= slip[1] <= heard[slip[0]])
    places = [slip[:2] for slip in slips]
    case.assertEqual(places, sorted(set(places)))


class Witness:
    """Remembers a book as it was handed in, with the very lists it holds."""

    def __init__(self, book):
        self.book = book
        self.parts = list(book)
        self.slips = list(book[1])
        self.copy = copy.deepcopy(book)

    def check_unchanged(self, case):
        case.assertEqual(self.book, self.copy)
        for part, before in zip(self.book, self.parts):
            case.assertIs(part, before)
        for slip, before in zip(self.book[1], self.slips):
            case.assertIs(slip, before)
