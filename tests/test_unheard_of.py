import copy
import unittest

from slipdesk.merging import unheard_of
from tests.samples import families, sample_books


class UnheardOfTest(unittest.TestCase):
    def test_no_slips(self):
        self.assertEqual(unheard_of([], [0]), [])
        self.assertEqual(unheard_of([], [4, 0, 10 ** 40]), [])

    def test_none_unheard_of(self):
        slips = [(0, 1, "pen"), (0, 3, "ink"), (1, 2, "cup")]
        self.assertEqual(unheard_of(slips, [3, 2]), [])
        self.assertEqual(unheard_of(slips, [9, 9]), [])

    def test_some_unheard_of(self):
        slips = [(0, 1, "pen"), (0, 2, "ink"), (0, 3, "cup"), (1, 1, "pen"), (1, 4, "a"), (2, 1, "zz")]
        self.assertEqual(unheard_of(slips, [2, 0, 1]), [(0, 3, "cup"), (1, 1, "pen"), (1, 4, "a")])
        self.assertEqual(unheard_of(slips, [0, 4, 0]), [(0, 1, "pen"), (0, 2, "ink"), (0, 3, "cup"), (2, 1, "zz")])

    def test_all_unheard_of(self):
        slips = [(0, 1, "pen"), (0, 3, "ink"), (1, 2, "cup")]
        self.assertEqual(unheard_of(slips, [0, 0]), slips)
        self.assertEqual(unheard_of(slips, [0, 1]), slips)

    def test_the_last_one_heard_of_and_the_first_one_not(self):
        slips = [(0, 4, "pen"), (0, 5, "ink"), (0, 6, "cup")]
        self.assertEqual(unheard_of(slips, [3]), slips)
        self.assertEqual(unheard_of(slips, [4]), [(0, 5, "ink"), (0, 6, "cup")])
        self.assertEqual(unheard_of(slips, [5]), [(0, 6, "cup")])
        self.assertEqual(unheard_of(slips, [6]), [])

    def test_each_desk_by_its_own_number(self):
        slips = [(0, 2, "pen"), (1, 2, "pen"), (2, 2, "pen")]
        self.assertEqual(unheard_of(slips, [1, 2, 3]), [(0, 2, "pen")])
        self.assertEqual(unheard_of(slips, [3, 1, 2]), [(1, 2, "pen")])
        self.assertEqual(unheard_of(slips, [2, 3, 1]), [(2, 2, "pen")])

    def test_more_desks_than_have_slips(self):
        self.assertEqual(unheard_of([(1, 1, "pen")], [5, 0, 5, 5]), [(1, 1, "pen")])
        self.assertEqual(unheard_of([(1, 1, "pen")], [0, 1, 0, 0]), [])

    def test_order_is_the_one_handed_in(self):
        slips = [(2, 1, "a"), (0, 9, "pen"), (1, 3, "zz"), (0, 2, "ink"), (2, 7, "cup"), (0, 10, "a"), (1, 1, "pen")]
        self.assertEqual(unheard_of(slips, [0, 0, 0]), slips)
        self.assertEqual(unheard_of(slips, [2, 1, 1]), [(0, 9, "pen"), (1, 3, "zz"), (2, 7, "cup"), (0, 10, "a")])
        self.assertEqual(unheard_of(slips[::-1], [2, 1, 1]), [(0, 10, "a"), (2, 7, "cup"), (1, 3, "zz"), (0, 9, "pen")])

    def test_slips_with_the_same_thing_are_told_apart(self):
        slips = [(0, 1, "pen"), (0, 2, "pen"), (1, 1, "pen")]
        self.assertEqual(unheard_of(slips, [1, 0]), [(0, 2, "pen"), (1, 1, "pen")])

    def test_numbers_of_one_and_two_digits(self):
        slips = [(0, 9, "pen"), (0, 10, "ink"), (0, 100, "cup")]
        self.assertEqual(unheard_of(slips, [9]), [(0, 10, "ink"), (0, 100, "cup")])
        self.assertEqual(unheard_of(slips, [10]), [(0, 100, "cup")])

    def test_numbers_far_greater_than_the_count_of_slips(self):
        slips = [(0, 10 ** 40, "pen"), (1, 10 ** 40, "ink"), (0, 10 ** 40 + 1, "cup"), (1, 3, "a")]
        self.assertEqual(unheard_of(slips, [10 ** 40, 10 ** 40 - 1]), [(1, 10 ** 40, "ink"), (0, 10 ** 40 + 1, "cup")])
        self.assertEqual(unheard_of(slips, [10 ** 9, 10 ** 41]), [(0, 10 ** 40, "pen"), (0, 10 ** 40 + 1, "cup")])
        self.assertEqual(unheard_of(slips, [10 ** 41, 10 ** 41]), [])

    def test_forty_desks_and_somewhat_more(self):
        for count in (40, 43):
            slips = [(desk, 2, "pen") for desk in range(count)]
            heard = [desk % 4 for desk in range(count)]
            self.assertEqual(unheard_of(slips, heard), [slip for slip in slips if slip[0] % 4 < 2])

    def test_two_hundred_slips_and_somewhat_more(self):
        for length in (200, 230):
            slips = [(0, number, "pen") for number in range(1, length + 1)]
            self.assertEqual(unheard_of(slips, [150]), slips[150:])

    def test_slips_and_numbers_are_as_before(self):
        for name, books in families().items():
            for book in books:
                for other in books:
                    slips = book[1][::-1]
                    heard = other[0]
                    before = copy.deepcopy((slips, heard))
                    answer = unheard_of(slips, heard)
                    self.assertEqual((slips, heard), before, name)
                    self.assertIs(type(answer), list)
                    self.assertIsNot(answer, slips)

    def test_a_book_has_heard_of_its_own_slips(self):
        for name, book in sample_books().items():
            self.assertEqual(unheard_of(book[1], book[0]), [], name)
            self.assertEqual(unheard_of(book[1], [0] * len(book[0])), book[1], name)

    def test_arguments_by_their_names(self):
        self.assertEqual(unheard_of(slips=[(0, 2, "pen")], heard=[1]), [(0, 2, "pen")])


if __name__ == "__main__":
    unittest.main()
