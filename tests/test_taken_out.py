import unittest

from slipdesk.books import empty_book, put_in, taken_out, things_in
from slipdesk.errors import DeskError, NoThing
from tests.samples import Witness, check_book, sample_books


class TakenOutTest(unittest.TestCase):
    def test_the_one_slip(self):
        self.assertEqual(taken_out(([1], [(0, 1, "pen")]), "pen"), ([1], []))

    def test_others_stay_in_their_order(self):
        book = ([3, 2], [(0, 1, "pen"), (0, 2, "ink"), (0, 3, "cup"), (1, 1, "cup"), (1, 2, "box")])
        self.assertEqual(taken_out(book, "ink"), ([3, 2], [(0, 1, "pen"), (0, 3, "cup"), (1, 1, "cup"), (1, 2, "box")]))
        self.assertEqual(taken_out(book, "pen"), ([3, 2], [(0, 2, "ink"), (0, 3, "cup"), (1, 1, "cup"), (1, 2, "box")]))
        self.assertEqual(taken_out(book, "box"), ([3, 2], [(0, 1, "pen"), (0, 2, "ink"), (0, 3, "cup"), (1, 1, "cup")]))

    def test_all_slips_with_the_thing_on_one_desk(self):
        book = ([5], [(0, 1, "pen"), (0, 2, "pen"), (0, 3, "pen"), (0, 4, "ink"), (0, 5, "pen")])
        self.assertEqual(taken_out(book, "pen"), ([5], [(0, 4, "ink")]))

    def test_all_slips_with_the_thing_on_several_desks(self):
        book = ([2, 1, 4], [(0, 1, "pen"), (0, 2, "ink"), (1, 1, "pen"), (2, 2, "cup"), (2, 4, "pen")])
        self.assertEqual(taken_out(book, "pen"), ([2, 1, 4], [(0, 2, "ink"), (2, 2, "cup")]))

    def test_last_slips_leave_what_was_heard_of(self):
        book = ([2, 0, 4], [(0, 1, "pen"), (0, 2, "pen"), (2, 3, "pen")])
        self.assertEqual(taken_out(book, "pen"), ([2, 0, 4], []))

    def test_things_that_hold_or_begin_one_another(self):
        book = ([5], [(0, 1, "a"), (0, 2, "aa"), (0, 3, "ab"), (0, 4, "ba"), (0, 5, "aba")])
        self.assertEqual(taken_out(book, "a"), ([5], [(0, 2, "aa"), (0, 3, "ab"), (0, 4, "ba"), (0, 5, "aba")]))
        self.assertEqual(taken_out(book, "aba"), ([5], [(0, 1, "a"), (0, 2, "aa"), (0, 3, "ab"), (0, 4, "ba")]))

    def test_long_things_that_differ_in_their_last_letter(self):
        stem = "slip" * 500
        book = ([2], [(0, 1, stem + "a"), (0, 2, stem + "b")])
        self.assertEqual(taken_out(book, stem + "b"), ([2], [(0, 1, stem + "a")]))
        with self.assertRaises(NoThing):
            taken_out(book, stem)

    def test_equal_text_that_is_another_object(self):
        book = ([1], [(0, 1, "".join(["p", "en"]))])
        self.assertEqual(taken_out(book, "".join(["pe", "n"])), ([1], []))

    def test_large_numbers(self):
        book = (
            [10 ** 9, 10 ** 40],
            [(0, 10 ** 9, "pen"), (1, 10 ** 40 - 1, "ink"), (1, 10 ** 40, "pen")],
        )
        self.assertEqual(taken_out(book, "pen"), ([10 ** 9, 10 ** 40], [(1, 10 ** 40 - 1, "ink")]))
        self.assertEqual(taken_out(book, "ink"), ([10 ** 9, 10 ** 40], [(0, 10 ** 9, "pen"), (1, 10 ** 40, "pen")]))

    def test_first_and_last_of_two_hundred_and_thirty_slips(self):
        slips = [(0, number, "ink") for number in range(1, 231)]
        slips[0] = (0, 1, "pen")
        slips[229] = (0, 230, "pen")
        self.assertEqual(taken_out(([230], slips), "pen"), ([230], slips[1:229]))
        self.assertEqual(taken_out(([230], slips), "ink"), ([230], [(0, 1, "pen"), (0, 230, "pen")]))

    def test_every_thing_of_every_sample(self):
        for name, book in sample_books().items():
            heard, slips = book
            for thing in things_in(book):
                with self.subTest(name, thing=thing):
                    witness = Witness(book)
                    answer = taken_out(book, thing)
                    check_book(self, answer)
                    self.assertEqual(answer, (heard, [slip for slip in slips if slip[2] != thing]))
                    self.assertNotIn(thing, things_in(answer))
                    witness.check_unchanged(self)

    def test_answer_has_lists_of_its_own(self):
        for name, book in sample_books().items():
            for thing in things_in(book):
                for own, handed in zip(taken_out(book, thing), book):
                    self.assertIsNot(own, handed, name)

    def test_arguments_by_their_names(self):
        self.assertEqual(taken_out(book=([1], [(0, 1, "pen")]), thing="pen"), ([1], []))


class RefusalTest(unittest.TestCase):
    def test_refused_by_each_of_its_names(self):
        for error in (NoThing, DeskError, ValueError):
            with self.assertRaises(error):
                taken_out(([1], [(0, 1, "pen")]), "ink")

    def test_empty_books(self):
        for book in (([0], []), ([0] * 40, []), empty_book(3)):
            with self.assertRaises(NoThing):
                taken_out(book, "pen")

    def test_slips_heard_of_but_none_lies_there(self):
        with self.assertRaises(NoThing):
            taken_out(([5, 10 ** 40], []), "pen")

    def test_taken_out_twice(self):
        book = taken_out(([2], [(0, 1, "pen"), (0, 2, "ink")]), "pen")
        with self.assertRaises(NoThing):
            taken_out(book, "pen")

    def test_put_in_again_is_no_longer_refused(self):
        book = put_in(taken_out(put_in(empty_book(2), 0, "pen"), "pen"), 1, "pen")
        self.assertEqual(taken_out(book, "pen"), ([1, 1], []))

    def test_part_of_a_thing_is_another_thing(self):
        for thing in ("p", "pe", "en", "n", "pens", "penpen"):
            with self.assertRaises(NoThing):
                taken_out(([1], [(0, 1, "pen")]), thing)

    def test_book_is_as_before_behind_a_refusal(self):
        for name, book in sample_books().items():
            with self.subTest(name):
                witness = Witness(book)
                with self.assertRaises(NoThing):
                    taken_out(book, "absent")
                witness.check_unchanged(self)


if __name__ == "__main__":
    unittest.main()
