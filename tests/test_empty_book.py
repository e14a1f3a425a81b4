import unittest

from slipdesk.books import empty_book, put_in, things_in
from tests.samples import check_book


class EmptyBookTest(unittest.TestCase):
    def test_one_desk(self):
        self.assertEqual(empty_book(1), ([0], []))

    def test_three_desks(self):
        self.assertEqual(empty_book(3), ([0, 0, 0], []))

    def test_forty_desks_and_somewhat_more(self):
        for count in (39, 40, 41, 45):
            self.assertEqual(empty_book(count), ([0] * count, []))

    def test_kinds(self):
        for count in (1, 2, 40):
            check_book(self, empty_book(count))

    def test_argument_by_its_name(self):
        self.assertEqual(empty_book(count=2), ([0, 0], []))

    def test_nothing_is_in_it(self):
        self.assertEqual(things_in(empty_book(4)), [])

    def test_still_empty_behind_puts_in_another(self):
        first = empty_book(2)
        put_in(put_in(first, 0, "pen"), 1, "ink")
        self.assertEqual(first, ([0, 0], []))
        self.assertEqual(empty_book(2), ([0, 0], []))


if __name__ == "__main__":
    unittest.main()
