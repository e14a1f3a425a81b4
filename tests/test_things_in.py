import unittest

from slipdesk.books import things_in
from tests.samples import Witness, sample_books


def book_with(things):
    """A book of one desk with these things, from its first slip on."""
    return ([len(things)], [(0, place + 1, thing) for place, thing in enumerate(things)])


class ThingsInTest(unittest.TestCase):
    def test_empty_books(self):
        self.assertEqual(things_in(([0], [])), [])
        self.assertEqual(things_in(([0] * 40, [])), [])

    def test_all_slips_taken_out(self):
        self.assertEqual(things_in(([5, 0, 10 ** 40], [])), [])

    def test_one_slip(self):
        self.assertEqual(things_in(([1], [(0, 1, "pen")])), ["pen"])

    def test_each_thing_once_on_one_desk(self):
        self.assertEqual(things_in(book_with(["pen", "pen", "ink", "pen"])), ["ink", "pen"])

    def test_each_thing_once_on_several_desks(self):
        book = ([2, 1, 4], [(0, 1, "pen"), (0, 2, "ink"), (1, 1, "pen"), (2, 2, "cup"), (2, 4, "ink")])
        self.assertEqual(things_in(book), ["cup", "ink", "pen"])

    def test_order_is_that_of_texts_not_of_slips(self):
        self.assertEqual(things_in(book_with(["z", "m", "a"])), ["a", "m", "z"])
        book = ([1, 1, 1], [(0, 1, "ink"), (1, 1, "cup"), (2, 1, "dish")])
        self.assertEqual(things_in(book), ["cup", "dish", "ink"])

    def test_order_is_not_that_of_lengths(self):
        things = ["b", "ab", "abc", "aa", "a", "ba", "aab"]
        self.assertEqual(things_in(book_with(things)), ["a", "aa", "aab", "ab", "abc", "b", "ba"])

    def test_every_letter(self):
        letters = "abcdefghijklmnopqrstuvwxyz"
        self.assertEqual(things_in(book_with(list(letters[::-1]))), list(letters))

    def test_long_things_differ_in_their_last_letter(self):
        stem = "slip" * 500
        things = [stem + "b", stem, stem + "a", stem + "b"]
        self.assertEqual(things_in(book_with(things)), [stem, stem + "a", stem + "b"])

    def test_equal_texts_that_are_separate_objects(self):
        things = ["".join(["in", "k"]), "".join(["i", "nk"])]
        self.assertEqual(things_in(book_with(things)), ["ink"])

    def test_two_hundred_things_and_somewhat_more(self):
        letters = "abcdefghijklmnopqrstuvwxyz"
        things = [first + second for first in letters for second in letters]
        for length in (200, 230):
            handed = things[:length]
            self.assertEqual(things_in(book_with(handed[::-1])), handed)

    def test_large_numbers(self):
        book = ([10 ** 40, 10 ** 9], [(0, 10 ** 40 - 1, "pen"), (0, 10 ** 40, "ink"), (1, 10 ** 9, "pen")])
        self.assertEqual(things_in(book), ["ink", "pen"])

    def test_a_list_of_texts(self):
        for name, book in sample_books().items():
            with self.subTest(name):
                answer = things_in(book)
                self.assertIs(type(answer), list)
                self.assertEqual(answer, sorted({thing for desk, number, thing in book[1]}))

    def test_argument_by_its_name(self):
        self.assertEqual(things_in(book=([1], [(0, 1, "pen")])), ["pen"])

    def test_book_is_as_before(self):
        for name, book in sample_books().items():
            with self.subTest(name):
                witness = Witness(book)
                things_in(book)
                witness.check_unchanged(self)


if __name__ == "__main__":
    unittest.main()
