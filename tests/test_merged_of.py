import unittest

from slipdesk.books import empty_book, put_in, taken_out, things_in
from slipdesk.merging import merged_of
from tests.samples import Witness, check_book, families, sample_books, small_books


def gone_from(book, slip):
    return slip[1] <= book[0][slip[0]] and slip not in book[1]


def expected(book, other):
    """Point 8 told the other way round: what lies in one of the two, but what is gone from either."""
    either = set(book[1]) | set(other[1])
    slips = [slip for slip in either if not gone_from(book, slip) and not gone_from(other, slip)]
    heard = [a if a > b else b for a, b in zip(book[0], other[0])]
    return (heard, sorted(slips))


class MergedOfTest(unittest.TestCase):
    def test_empty_books(self):
        for count in (1, 3, 40, 43):
            self.assertEqual(merged_of(empty_book(count), empty_book(count)), ([0] * count, []))

    def test_a_book_with_an_empty_one(self):
        for name, book in sample_books().items():
            with self.subTest(name):
                empty = empty_book(len(book[0]))
                self.assertEqual(merged_of(book, empty), book)
                self.assertEqual(merged_of(empty, book), book)

    def test_a_book_with_itself(self):
        for name, book in sample_books().items():
            with self.subTest(name):
                self.assertEqual(merged_of(book, book), book)

    def test_the_greater_number_heard_of_for_each_desk(self):
        self.assertEqual(merged_of(([1, 5, 3, 0], []), ([4, 2, 3, 0], [])), ([4, 5, 3, 0], []))
        self.assertEqual(merged_of(([9], []), ([10], [])), ([10], []))
        self.assertEqual(merged_of(([10 ** 40, 0], []), ([10 ** 9, 10 ** 40 + 1], [])), ([10 ** 40, 10 ** 40 + 1], []))

    def test_a_slip_in_both(self):
        book = ([2, 0], [(0, 2, "pen")])
        other = ([2, 1], [(0, 2, "pen"), (1, 1, "ink")])
        self.assertEqual(merged_of(book, other), ([2, 1], [(0, 2, "pen"), (1, 1, "ink")]))
        self.assertEqual(merged_of(other, book), ([2, 1], [(0, 2, "pen"), (1, 1, "ink")]))

    def test_a_slip_that_the_other_has_not_heard_of(self):
        book = ([1, 0], [(0, 1, "pen")])
        other = ([0, 1], [(1, 1, "ink")])
        self.assertEqual(merged_of(book, other), ([1, 1], [(0, 1, "pen"), (1, 1, "ink")]))
        self.assertEqual(merged_of(other, book), ([1, 1], [(0, 1, "pen"), (1, 1, "ink")]))

    def test_a_slip_that_the_other_has_heard_of_and_no_longer_has(self):
        book = ([1, 0], [(0, 1, "pen")])
        other = ([1, 0], [])
        self.assertEqual(merged_of(book, other), ([1, 0], []))
        self.assertEqual(merged_of(other, book), ([1, 0], []))

    def test_taken_out_though_the_other_has_heard_of_more(self):
        book = ([1, 3], [(0, 1, "pen")])
        other = ([4, 0], [(0, 4, "pen")])
        self.assertEqual(merged_of(book, other), ([4, 3], [(0, 4, "pen")]))
        self.assertEqual(merged_of(other, book), ([4, 3], [(0, 4, "pen")]))

    def test_each_of_two_has_taken_out_what_the_other_has(self):
        book = ([2], [(0, 1, "pen")])
        other = ([2], [(0, 2, "ink")])
        self.assertEqual(merged_of(book, other), ([2], []))

    def test_all_cases_at_once(self):
        book = ([3, 4, 2], [(0, 1, "pen"), (0, 3, "ink"), (1, 2, "cup"), (1, 4, "a"), (2, 2, "zz")])
        other = ([5, 2, 2], [(0, 1, "pen"), (0, 2, "pen"), (0, 5, "a"), (1, 1, "ink"), (2, 1, "cup"), (2, 2, "zz")])
        merged = ([5, 4, 2], [(0, 1, "pen"), (0, 5, "a"), (1, 4, "a"), (2, 2, "zz")])
        self.assertEqual(merged_of(book, other), merged)
        self.assertEqual(merged_of(other, book), merged)

    def test_last_slip_heard_of_and_first_one_not(self):
        book = ([6], [(0, 4, "pen"), (0, 5, "ink"), (0, 6, "cup")])
        self.assertEqual(merged_of(book, ([5], [])), ([6], [(0, 6, "cup")]))
        self.assertEqual(merged_of(book, ([4], [])), ([6], [(0, 5, "ink"), (0, 6, "cup")]))
        self.assertEqual(merged_of(book, ([6], [])), ([6], []))
        self.assertEqual(merged_of(book, ([3], [])), ([6], [(0, 4, "pen"), (0, 5, "ink"), (0, 6, "cup")]))

    def test_same_number_on_other_desks_is_another_slip(self):
        book = ([1, 1], [(0, 1, "pen")])
        other = ([1, 1], [(1, 1, "pen")])
        self.assertEqual(merged_of(book, other), ([1, 1], []))

    def test_new_slip_with_a_thing_that_was_taken_out_stays(self):
        first = put_in(empty_book(2), 0, "pen")
        second = taken_out(first, "pen")
        third = put_in(first, 0, "pen")
        self.assertEqual(merged_of(second, third), ([2, 0], [(0, 2, "pen")]))

    def test_same_thing_put_in_apart_has_a_slip_of_each(self):
        merged = merged_of(put_in(empty_book(2), 0, "pen"), put_in(empty_book(2), 1, "pen"))
        self.assertEqual(merged, ([1, 1], [(0, 1, "pen"), (1, 1, "pen")]))
        self.assertEqual(things_in(merged), ["pen"])

    def test_order_of_desks_and_numbers(self):
        book = ([2, 9, 0, 1], [(0, 2, "zz"), (1, 9, "pen"), (3, 1, "a")])
        other = ([1, 11, 3, 0], [(0, 1, "pen"), (1, 9, "pen"), (1, 10, "a"), (1, 11, "a"), (2, 3, "ink")])
        slips = [(0, 2, "zz"), (1, 9, "pen"), (1, 10, "a"), (1, 11, "a"), (2, 3, "ink"), (3, 1, "a")]
        self.assertEqual(merged_of(book, other), ([2, 11, 3, 1], slips))
        self.assertEqual(merged_of(other, book), ([2, 11, 3, 1], slips))

    def test_newer_slips_stand_among_those_in_both(self):
        book = ([3, 1], [(0, 3, "a"), (1, 1, "pen")])
        newer = ([4, 2], [(0, 3, "a"), (0, 4, "ink"), (1, 1, "pen"), (1, 2, "cup")])
        self.assertEqual(merged_of(newer, book), newer)
        self.assertEqual(merged_of(book, newer), newer)

    def test_desks_of_one_and_two_digits(self):
        book = ([1] * 12, [(2, 1, "pen"), (9, 1, "ink")])
        other = ([1] * 10 + [2, 1], [(2, 1, "pen"), (9, 1, "ink"), (10, 2, "a")])
        self.assertEqual(merged_of(book, other), ([1] * 10 + [2, 1], [(2, 1, "pen"), (9, 1, "ink"), (10, 2, "a")]))

    def test_large_numbers(self):
        book = ([10 ** 40, 5], [(0, 7, "pen"), (0, 10 ** 40, "ink"), (1, 5, "cup")])
        other = ([10 ** 40 - 1, 10 ** 40], [(0, 7, "pen"), (0, 10 ** 40 - 1, "a"), (1, 10 ** 9, "zz")])
        merged = ([10 ** 40, 10 ** 40], [(0, 7, "pen"), (0, 10 ** 40, "ink"), (1, 10 ** 9, "zz")])
        self.assertEqual(merged_of(book, other), merged)
        self.assertEqual(merged_of(other, book), merged)

    def test_forty_desks_and_somewhat_more(self):
        for count in (40, 43):
            even = ([1 - desk % 2 for desk in range(count)], [(desk, 1, "pen") for desk in range(0, count, 2)])
            odd = ([desk % 2 for desk in range(count)], [(desk, 1, "ink") for desk in range(1, count, 2)])
            slips = [(desk, 1, "ink" if desk % 2 else "pen") for desk in range(count)]
            self.assertEqual(merged_of(even, odd), ([1] * count, slips))
            self.assertEqual(merged_of(odd, even), ([1] * count, slips))

    def test_two_hundred_slips_each_and_somewhat_more(self):
        for length in (200, 230):
            slips = [(0, number, "pen") for number in range(1, 2 * length + 1)]
            book = ([length], slips[:length])
            other = ([2 * length], slips[length:])
            self.assertEqual(merged_of(book, other), ([2 * length], slips[length:]))
            apart = ([0, length], [(1, number, "ink") for number in range(1, length + 1)])
            merged = merged_of(([length, 0], slips[:length]), apart)
            self.assertEqual(merged, ([length, length], slips[:length] + apart[1]))
            self.assertEqual(merged_of(([length], slips[:length]), ([length], slips[:length])), ([length], slips[:length]))

    def test_equal_slips_that_are_other_objects(self):
        book = ([1], [(0, 1, "".join(["pe", "n"]))])
        other = ([1], [(0, 1, "".join(["p", "en"]))])
        self.assertEqual(merged_of(book, other), ([1], [(0, 1, "pen")]))

    def test_every_two_small_books(self):
        for count, most in ((1, 4), (2, 2), (3, 1)):
            books = list(small_books(count, most))
            for book in books:
                for other in books:
                    self.assertEqual(merged_of(book, other), expected(book, other))

    def test_books_drawn(self):
        for name, books in families().items():
            for book in books:
                for other in books:
                    with self.subTest(name):
                        answer = merged_of(book, other)
                        check_book(self, answer)
                        self.assertEqual(answer, expected(book, other))

    def test_both_books_are_as_before(self):
        for name, books in families().items():
            for book in books:
                for other in books:
                    with self.subTest(name):
                        witnesses = (Witness(book), Witness(other))
                        merged_of(book, other)
                        for witness in witnesses:
                            witness.check_unchanged(self)

    def test_answer_has_lists_of_its_own(self):
        for name, books in families().items():
            for book in books:
                for other in books:
                    lists = [id(part) for part in merged_of(book, other)]
                    for part in book + other:
                        self.assertNotIn(id(part), lists, name)

    def test_arguments_by_their_names(self):
        book = ([1, 0], [(0, 1, "pen")])
        other = ([0, 1], [(1, 1, "ink")])
        self.assertEqual(merged_of(book=book, other=other), ([1, 1], [(0, 1, "pen"), (1, 1, "ink")]))


if __name__ == "__main__":
    unittest.main()
