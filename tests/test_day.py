import copy
import unittest

from slipdesk.books import empty_book, put_in, taken_out, things_in
from slipdesk.day import books_behind, things_behind
from slipdesk.merging import merged_of
from tests.samples import check_book, day_of


class DayTest(unittest.TestCase):
    def check_day(self, count, deeds, books):
        self.assertEqual(books_behind(count, deeds), books)
        self.assertEqual(things_behind(count, deeds), [sorted({slip[2] for slip in slips}) for heard, slips in books])

    def test_a_day_without_deeds(self):
        for count in (1, 2, 40, 43):
            self.check_day(count, [], [([0] * count, [])] * count)

    def test_put(self):
        self.check_day(1, [("put", 0, "pen")], [([1], [(0, 1, "pen")])])
        self.check_day(3, [("put", 1, "pen")], [([0] * 3, []), ([0, 1, 0], [(1, 1, "pen")]), ([0] * 3, [])])

    def test_puts_on_several_desks(self):
        deeds = [("put", 1, "pen"), ("put", 0, "ink"), ("put", 1, "cup")]
        self.check_day(2, deeds, [([1, 0], [(0, 1, "ink")]), ([0, 2], [(1, 1, "pen"), (1, 2, "cup")])])

    def test_same_thing_put_several_times(self):
        deeds = [("put", 0, "pen")] * 3
        self.check_day(1, deeds, [([3], [(0, 1, "pen"), (0, 2, "pen"), (0, 3, "pen")])])
        self.check_day(1, deeds + [("take", 0, "pen")], [([3], [])])
        self.check_day(1, deeds + [("take", 0, "pen"), ("put", 0, "pen")], [([4], [(0, 4, "pen")])])

    def test_same_thing_put_on_several_desks(self):
        deeds = [("put", 0, "pen"), ("put", 1, "pen"), ("hear", 0, 1)]
        books = [([1, 1], [(0, 1, "pen"), (1, 1, "pen")]), ([0, 1], [(1, 1, "pen")])]
        self.check_day(2, deeds, books)
        self.check_day(2, deeds + [("take", 0, "pen")], [([1, 1], []), ([0, 1], [(1, 1, "pen")])])

    def test_take(self):
        deeds = [("put", 0, "pen"), ("put", 0, "ink"), ("take", 0, "pen")]
        self.check_day(1, deeds, [([2], [(0, 2, "ink")])])

    def test_take_on_one_desk_leaves_the_others(self):
        deeds = [("put", 0, "pen"), ("put", 1, "pen"), ("take", 0, "pen")]
        self.check_day(2, deeds, [([1, 0], []), ([0, 1], [(1, 1, "pen")])])

    def test_refused_take_alone(self):
        self.check_day(1, [("take", 0, "pen")], [([0], [])])
        self.check_day(2, [("take", 1, "pen")] * 3, [([0, 0], [])] * 2)

    def test_day_goes_on_behind_a_refused_take(self):
        deeds = [("take", 0, "pen"), ("put", 0, "pen"), ("take", 0, "ink"), ("take", 1, "pen"), ("put", 1, "cup")]
        self.check_day(2, deeds, [([1, 0], [(0, 1, "pen")]), ([0, 1], [(1, 1, "cup")])])
        deeds = deeds + [("hear", 1, 0), ("take", 1, "pen"), ("take", 1, "pen"), ("put", 1, "a")]
        self.check_day(2, deeds, [([1, 0], [(0, 1, "pen")]), ([1, 2], [(1, 1, "cup"), (1, 2, "a")])])

    def test_hear(self):
        deeds = [("put", 0, "pen"), ("put", 1, "ink"), ("hear", 0, 1)]
        self.check_day(2, deeds, [([1, 1], [(0, 1, "pen"), (1, 1, "ink")]), ([0, 1], [(1, 1, "ink")])])
        deeds[2] = ("hear", 1, 0)
        self.check_day(2, deeds, [([1, 0], [(0, 1, "pen")]), ([1, 1], [(0, 1, "pen"), (1, 1, "ink")])])

    def test_hear_of_a_desk_without_slips(self):
        deeds = [("put", 0, "pen"), ("hear", 0, 1)]
        self.check_day(2, deeds, [([1, 0], [(0, 1, "pen")]), ([0, 0], [])])

    def test_hear_of_itself(self):
        self.check_day(1, [("hear", 0, 0)], [([0], [])])
        deeds = [("put", 0, "pen"), ("put", 0, "ink"), ("take", 0, "pen"), ("put", 1, "cup")]
        books = books_behind(2, deeds)
        for desk in (0, 1):
            self.check_day(2, deeds + [("hear", desk, desk)] * 2, books)

    def test_hear_takes_over_the_book_as_it_is_then(self):
        deeds = [("put", 0, "pen"), ("hear", 1, 0), ("put", 0, "ink"), ("take", 0, "pen")]
        self.check_day(2, deeds, [([2, 0], [(0, 2, "ink")]), ([1, 0], [(0, 1, "pen")])])
        self.check_day(2, deeds + [("hear", 1, 0)], [([2, 0], [(0, 2, "ink")])] * 2)

    def test_hear_through_a_third_desk(self):
        deeds = [("put", 0, "pen"), ("hear", 1, 0), ("hear", 2, 1)]
        self.check_day(3, deeds, [([1, 0, 0], [(0, 1, "pen")])] * 3)
        deeds = [("put", 0, "pen"), ("hear", 2, 1), ("hear", 1, 0)]
        self.check_day(3, deeds, [([1, 0, 0], [(0, 1, "pen")])] * 2 + [([0, 0, 0], [])])

    def test_take_of_what_was_put_elsewhere_and_heard_of(self):
        deeds = [("put", 0, "pen"), ("hear", 1, 0), ("take", 1, "pen")]
        self.check_day(2, deeds, [([1, 0], [(0, 1, "pen")]), ([1, 0], [])])
        self.check_day(2, deeds + [("hear", 1, 0)], [([1, 0], [(0, 1, "pen")]), ([1, 0], [])])
        self.check_day(2, deeds + [("hear", 0, 1)], [([1, 0], [])] * 2)

    def test_take_of_what_was_put_elsewhere_and_not_heard_of(self):
        deeds = [("put", 0, "pen"), ("take", 1, "pen")]
        self.check_day(2, deeds, [([1, 0], [(0, 1, "pen")]), ([0, 0], [])])
        self.check_day(2, deeds + [("hear", 1, 0), ("hear", 0, 1)], [([1, 0], [(0, 1, "pen")])] * 2)

    def test_take_of_what_was_put_here_and_elsewhere_not_heard_of(self):
        deeds = [("put", 0, "pen"), ("put", 1, "pen"), ("take", 1, "pen"), ("hear", 0, 1), ("hear", 1, 0)]
        self.check_day(2, deeds, [([1, 1], [(0, 1, "pen")])] * 2)

    def test_put_again_elsewhere_beside_a_take(self):
        deeds = [("put", 0, "pen"), ("hear", 1, 0), ("put", 1, "pen"), ("take", 0, "pen"), ("hear", 0, 1), ("hear", 1, 0)]
        self.check_day(2, deeds, [([1, 1], [(1, 1, "pen")])] * 2)

    def test_put_behind_a_hear_counts_the_desk_s_own_slips(self):
        deeds = [("put", 0, "pen"), ("put", 0, "ink"), ("hear", 1, 0), ("put", 1, "cup"), ("hear", 0, 1), ("put", 0, "a")]
        book = ([2, 1], [(0, 1, "pen"), (0, 2, "ink"), (1, 1, "cup")])
        self.check_day(2, deeds, [([3, 1], [(0, 1, "pen"), (0, 2, "ink"), (0, 3, "a"), (1, 1, "cup")]), book])

    def test_things_in_the_order_of_texts(self):
        deeds = [("put", 0, "zz"), ("put", 0, "b"), ("put", 0, "aa"), ("put", 0, "b"), ("put", 0, "a"), ("put", 1, "z")]
        self.assertEqual(things_behind(2, deeds), [["a", "aa", "b", "zz"], ["z"]])
        self.assertEqual(things_behind(2, deeds + [("hear", 1, 0)])[1], ["a", "aa", "b", "z", "zz"])

    def test_things_that_are_called_like_deeds(self):
        deeds = [("put", 0, "take"), ("put", 0, "hear"), ("put", 0, "put"), ("take", 0, "put"), ("hear", 1, 0)]
        self.assertEqual(things_behind(2, deeds), [["hear", "take"]] * 2)

    def test_three_hundred_puts_and_somewhat_more(self):
        for length in (300, 330):
            slips = [(0, number, "pen") for number in range(1, length + 1)]
            self.check_day(1, [("put", 0, "pen")] * length, [([length], slips)])
            self.check_day(1, [("put", 0, "pen")] * (length - 1) + [("take", 0, "pen")], [([length - 1], [])])

    def test_three_hundred_hears_and_somewhat_more(self):
        for length in (300, 330):
            deeds = [("put", 0, "pen")] + [("hear", 1, 0), ("hear", 0, 1)] * (length // 2)
            self.check_day(2, deeds, [([1, 0], [(0, 1, "pen")])] * 2)

    def test_three_hundred_refused_takes_and_somewhat_more(self):
        for length in (300, 330):
            deeds = [("take", 0, "pen")] * length + [("put", 0, "pen")]
            self.check_day(1, deeds, [([1], [(0, 1, "pen")])])

    def test_forty_desks_and_somewhat_more(self):
        for count in (40, 43):
            deeds = [("put", desk, "pen") for desk in range(count)]
            one_each = [([int(desk == own) for desk in range(count)], [(own, 1, "pen")]) for own in range(count)]
            self.check_day(count, deeds, one_each)
            deeds = deeds + [("hear", desk, desk - 1) for desk in range(1, count)]
            books = []
            for own in range(count):
                heard = [1] * (own + 1) + [0] * (count - own - 1)
                books.append((heard, [(desk, 1, "pen") for desk in range(own + 1)]))
            self.check_day(count, deeds, books)
            books[count - 1] = ([1] * count, [])
            self.check_day(count, deeds + [("take", count - 1, "pen")], books)

    def test_each_deed_is_what_the_other_functions_answer(self):
        for seed in range(12):
            count = (1, 2, 5, 40)[seed % 4]
            books = [empty_book(count) for desk in range(count)]
            deeds = day_of(seed, count, 60)
            for done, (kind, desk, last) in enumerate(deeds, start=1):
                if kind == "put":
                    books[desk] = put_in(books[desk], desk, last)
                elif kind == "hear":
                    books[desk] = merged_of(books[desk], books[last])
                elif last in things_in(books[desk]):
                    books[desk] = taken_out(books[desk], last)
                self.check_day(count, deeds[:done], books)

    def test_kinds(self):
        for seed in range(12):
            count = (1, 2, 5, 40)[seed % 4]
            deeds = day_of(seed, count, 300)
            books = books_behind(count, deeds)
            self.assertIs(type(books), list)
            self.assertEqual(len(books), count)
            for book in books:
                check_book(self, book)
                self.assertEqual(len(book[0]), count)
            things = things_behind(count, deeds)
            self.assertIs(type(things), list)
            self.assertEqual([type(own) for own in things], [list] * count)
            self.assertEqual(things, [things_in(book) for book in books])

    def test_books_share_no_list(self):
        for deeds in ([], [("hear", 0, 1), ("hear", 2, 2)], [("put", 0, "pen"), ("hear", 1, 0), ("hear", 2, 1)]):
            lists = [id(part) for book in books_behind(3, deeds) for part in book]
            self.assertEqual(len(set(lists)), 6)

    def test_deeds_are_as_before(self):
        for seed in range(6):
            count = (1, 3, 40)[seed % 3]
            deeds = day_of(seed, count, 320)
            before = copy.deepcopy(deeds)
            parts = list(deeds)
            for function in (books_behind, things_behind):
                function(count, deeds)
                self.assertEqual(deeds, before)
                for deed, part in zip(deeds, parts):
                    self.assertIs(deed, part)

    def test_same_day_twice(self):
        deeds = day_of(5, 4, 120)
        first = books_behind(4, deeds)
        kept = copy.deepcopy(first)
        for heard, slips in first:
            heard.append(9)
            slips.clear()
        self.assertEqual(books_behind(4, deeds), kept)

    def test_arguments_by_their_names(self):
        self.assertEqual(books_behind(count=1, deeds=[("put", 0, "pen")]), [([1], [(0, 1, "pen")])])
        self.assertEqual(things_behind(count=1, deeds=[("put", 0, "pen")]), [["pen"]])


if __name__ == "__main__":
    unittest.main()
