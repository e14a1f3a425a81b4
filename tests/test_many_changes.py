"""Long runs of changes, held beside a plain record of the slips."""

import unittest

from slipdesk.books import empty_book, put_in, taken_out, things_in
from slipdesk.errors import NoThing
from tests.samples import Witness, check_book

THINGS = ("a", "z", "pen", "pens", "ink", "cup" * 30)


class Record:
    """Which slips were made on each desk, and which of them lie there, without a book."""

    def __init__(self, count):
        self.made = [0] * count
        self.lying = {}

    def put(self, desk, thing):
        self.made[desk] += 1
        self.lying[(desk, self.made[desk])] = thing

    def take(self, thing):
        gone = [place for place in self.lying if self.lying[place] == thing]
        for place in gone:
            del self.lying[place]
        return len(gone)

    def book(self):
        return (list(self.made), [place + (self.lying[place],) for place in sorted(self.lying)])


class ManyChangesTest(unittest.TestCase):
    def run_of_changes(self, count, seed, puts_in_ten):
        record = Record(count)
        book = empty_book(count)
        for step in range(220):
            seed = (seed * 1103515245 + 12345) % 2 ** 31
            draw = seed // 2 ** 8
            thing = THINGS[draw % len(THINGS)]
            desk = draw // 64 % count
            witness = Witness(book)
            if draw // 4096 % 10 < puts_in_ten:
                record.put(desk, thing)
                book = put_in(book, desk, thing)
            elif record.take(thing) > 0:
                book = taken_out(book, thing)
            else:
                with self.assertRaises(NoThing):
                    taken_out(book, thing)
            witness.check_unchanged(self)
            check_book(self, book)
            self.assertEqual(book, record.book())
            self.assertEqual(things_in(book), sorted(set(record.lying.values())))

    def test_runs_of_puts_and_takes(self):
        for count in (1, 2, 5, 40):
            for puts_in_ten in (3, 6, 9):
                for seed in (1, 2026):
                    with self.subTest(count=count, puts_in_ten=puts_in_ten, seed=seed):
                        self.run_of_changes(count, seed, puts_in_ten)


if __name__ == "__main__":
    unittest.main()
