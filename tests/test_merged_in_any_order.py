"""Point 9: which book is named first, which are merged first, and how often, makes no difference."""

import itertools
import unittest

from slipdesk.books import empty_book
from slipdesk.merging import merged_of
from tests.samples import families, small_books


def merged_all(books):
    """One book behind another, from an empty one on."""
    merged = empty_book(len(books[0][0]))
    for book in books:
        merged = merged_of(merged, book)
    return merged


def merged_by_halves(books):
    if len(books) == 1:
        return books[0]
    half = len(books) // 2
    return merged_of(merged_by_halves(books[:half]), merged_by_halves(books[half:]))


class AnyOrderTest(unittest.TestCase):
    def test_whichever_is_named_first(self):
        for name, books in families().items():
            for book, other in itertools.combinations(books, 2):
                self.assertEqual(merged_of(book, other), merged_of(other, book), name)

    def test_whichever_are_merged_first(self):
        for name, books in families().items():
            for first, second, third in itertools.permutations(books, 3):
                ahead = merged_of(merged_of(first, second), third)
                behind = merged_of(first, merged_of(second, third))
                self.assertEqual(ahead, behind, name)

    def test_merged_in_again_and_again(self):
        for name, books in families().items():
            for book, other in itertools.permutations(books, 2):
                once = merged_of(book, other)
                again = once
                for step in range(3):
                    again = merged_of(again, other)
                    self.assertEqual(again, once, name)
                    again = merged_of(book, again)
                    self.assertEqual(again, once, name)
                self.assertEqual(merged_of(again, once), once, name)

    def test_a_book_merged_in_early_is_merged_in_again_late(self):
        for name, books in families().items():
            merged = merged_all(books)
            for book in books:
                self.assertEqual(merged_of(merged, book), merged, name)
                self.assertEqual(merged_of(book, merged), merged, name)

    def test_all_books_in_several_orders(self):
        for name, books in families().items():
            merged = merged_all(books)
            turned = books[1:] + books[:1]
            for order in (books[::-1], turned, books + books, turned + books[::-1] + turned):
                self.assertEqual(merged_all(order), merged, name)
                self.assertEqual(merged_by_halves(order), merged, name)

    def test_every_three_small_books(self):
        for count, most in ((1, 3), (2, 1)):
            books = list(small_books(count, most))
            for first, second, third in itertools.product(books, repeat=3):
                ahead = merged_of(merged_of(first, second), third)
                self.assertEqual(ahead, merged_of(first, merged_of(second, third)))
                self.assertEqual(ahead, merged_of(merged_of(third, first), second))
                self.assertEqual(ahead, merged_of(ahead, second))


if __name__ == "__main__":
    unittest.main()
