import unittest

from slipdesk.books import empty_book, put_in, taken_out, things_in
from tests.samples import Witness, check_book, sample_books


class PutInTest(unittest.TestCase):
    def test_first_slip_of_a_desk_has_number_one(self):
        self.assertEqual(put_in(([0], []), 0, "pen"), ([1], [(0, 1, "pen")]))
        self.assertEqual(put_in(([0, 0, 0], []), 1, "pen"), ([0, 1, 0], [(1, 1, "pen")]))

    def test_numbers_go_on_by_one(self):
        book = empty_book(2)
        for thing in ("pen", "ink", "cup"):
            book = put_in(book, 1, thing)
        self.assertEqual(book, ([0, 3], [(1, 1, "pen"), (1, 2, "ink"), (1, 3, "cup")]))

    def test_each_desk_counts_for_itself(self):
        book = ([2, 1], [(0, 1, "pen"), (0, 2, "ink"), (1, 1, "cup")])
        self.assertEqual(
            put_in(book, 1, "box"),
            ([2, 2], [(0, 1, "pen"), (0, 2, "ink"), (1, 1, "cup"), (1, 2, "box")]),
        )

    def test_least_middle_and_greatest_desk(self):
        heard = [2, 1, 1]
        slips = [(0, 1, "pen"), (0, 2, "ink"), (1, 1, "cup"), (2, 1, "pen")]
        self.assertEqual(
            put_in((heard, slips), 0, "box"),
            ([3, 1, 1], [(0, 1, "pen"), (0, 2, "ink"), (0, 3, "box"), (1, 1, "cup"), (2, 1, "pen")]),
        )
        self.assertEqual(
            put_in((heard, slips), 1, "box"),
            ([2, 2, 1], [(0, 1, "pen"), (0, 2, "ink"), (1, 1, "cup"), (1, 2, "box"), (2, 1, "pen")]),
        )
        self.assertEqual(
            put_in((heard, slips), 2, "box"),
            ([2, 1, 2], [(0, 1, "pen"), (0, 2, "ink"), (1, 1, "cup"), (2, 1, "pen"), (2, 2, "box")]),
        )

    def test_desk_without_slips_between_others(self):
        book = ([1, 0, 1], [(0, 1, "pen"), (2, 1, "ink")])
        self.assertEqual(put_in(book, 1, "a"), ([1, 1, 1], [(0, 1, "pen"), (1, 1, "a"), (2, 1, "ink")]))

    def test_number_counts_slips_that_were_taken_out(self):
        book = ([2, 6, 1], [(0, 1, "pen"), (1, 2, "cup"), (2, 1, "pen")])
        self.assertEqual(
            put_in(book, 1, "ink"),
            ([2, 7, 1], [(0, 1, "pen"), (1, 2, "cup"), (1, 7, "ink"), (2, 1, "pen")]),
        )

    def test_desk_all_of_whose_slips_were_taken_out(self):
        book = ([2, 6, 1], [(0, 1, "pen"), (2, 1, "pen")])
        self.assertEqual(put_in(book, 1, "ink"), ([2, 7, 1], [(0, 1, "pen"), (1, 7, "ink"), (2, 1, "pen")]))
        self.assertEqual(put_in(([5, 9], []), 0, "ink"), ([6, 9], [(0, 6, "ink")]))

    def test_number_is_not_used_again_behind_a_take(self):
        book = taken_out(put_in(put_in(empty_book(1), 0, "ink"), 0, "pen"), "pen")
        self.assertEqual(put_in(book, 0, "pen"), ([3], [(0, 1, "ink"), (0, 3, "pen")]))

    def test_thing_in_the_book_already_on_the_same_desk(self):
        book = ([1, 0], [(0, 1, "pen")])
        self.assertEqual(put_in(book, 0, "pen"), ([2, 0], [(0, 1, "pen"), (0, 2, "pen")]))

    def test_thing_in_the_book_already_on_other_desks(self):
        book = ([1, 4, 1], [(0, 1, "pen"), (1, 3, "ink"), (2, 1, "pen")])
        self.assertEqual(
            put_in(book, 1, "pen"),
            ([1, 5, 1], [(0, 1, "pen"), (1, 3, "ink"), (1, 5, "pen"), (2, 1, "pen")]),
        )

    def test_large_numbers(self):
        book = ([10 ** 9, 10 ** 40], [(0, 10 ** 9, "pen"), (1, 10 ** 40 - 1, "ink")])
        self.assertEqual(
            put_in(book, 0, "cup"),
            ([10 ** 9 + 1, 10 ** 40], [(0, 10 ** 9, "pen"), (0, 10 ** 9 + 1, "cup"), (1, 10 ** 40 - 1, "ink")]),
        )
        self.assertEqual(
            put_in(book, 1, "cup"),
            ([10 ** 9, 10 ** 40 + 1], [(0, 10 ** 9, "pen"), (1, 10 ** 40 - 1, "ink"), (1, 10 ** 40 + 1, "cup")]),
        )
        self.assertEqual(put_in(([0, 10 ** 40], []), 1, "a"), ([0, 10 ** 40 + 1], [(1, 10 ** 40 + 1, "a")]))

    def test_number_of_a_digit_more_stands_last(self):
        book = ([9], [(0, 2, "pen"), (0, 9, "ink")])
        self.assertEqual(put_in(book, 0, "a"), ([10], [(0, 2, "pen"), (0, 9, "ink"), (0, 10, "a")]))

    def test_desk_of_a_digit_more_stands_last(self):
        book = ([1] * 11, [(2, 1, "pen"), (9, 1, "ink")])
        self.assertEqual(put_in(book, 10, "a"), ([1] * 10 + [2], [(2, 1, "pen"), (9, 1, "ink"), (10, 2, "a")]))

    def test_greatest_of_forty_desks_and_of_somewhat_more(self):
        for count in (40, 43):
            book = put_in(empty_book(count), count - 1, "pen")
            self.assertEqual(book, ([0] * (count - 1) + [1], [(count - 1, 1, "pen")]))

    def test_a_slip_on_each_of_forty_desks_from_the_greatest_on(self):
        book = empty_book(40)
        for desk in reversed(range(40)):
            book = put_in(book, desk, "pen")
        self.assertEqual(book, ([1] * 40, [(desk, 1, "pen") for desk in range(40)]))

    def test_slips_grow_beyond_two_hundred(self):
        book = empty_book(1)
        for number in range(1, 231):
            book = put_in(book, 0, "pen")
            self.assertEqual(len(book[1]), number)
        self.assertEqual(book, ([230], [(0, number, "pen") for number in range(1, 231)]))

    def test_things_of_one_letter_and_of_many(self):
        for thing in ("a", "z", "abcdefghijklmnopqrstuvwxyz", "slip" * 1000):
            book = put_in(empty_book(1), 0, thing)
            self.assertEqual(book, ([1], [(0, 1, thing)]))
            self.assertEqual(things_in(book), [thing])

    def test_every_desk_of_every_sample(self):
        for name, book in sample_books().items():
            heard, slips = book
            for desk in range(len(heard)):
                for thing in ("pen", "new"):
                    with self.subTest(name, desk=desk, thing=thing):
                        witness = Witness(book)
                        answer = put_in(book, desk, thing)
                        check_book(self, answer)
                        number = heard[desk] + 1
                        self.assertEqual(answer[0], heard[:desk] + [number] + heard[desk + 1:])
                        self.assertEqual(answer[1], sorted(slips + [(desk, number, thing)]))
                        witness.check_unchanged(self)

    def test_older_books_stay_behind_later_puts(self):
        book = empty_book(3)
        witnesses = []
        for step in range(12):
            witnesses.append(Witness(book))
            book = put_in(book, step * 2 % 3, "pen")
        for witness in witnesses:
            witness.check_unchanged(self)

    def test_arguments_by_their_names(self):
        self.assertEqual(put_in(book=([0, 0], []), desk=1, thing="pen"), ([0, 1], [(1, 1, "pen")]))


if __name__ == "__main__":
    unittest.main()
