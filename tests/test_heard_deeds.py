"""Point 11, worked out from which deeds each desk has heard of, without slips and books."""

import itertools
import unittest

from slipdesk.day import books_behind, things_behind
from tests.samples import check_book, day_of


class HeardDeeds:
    """Which deeds each desk has heard of; a deed is told by its place in the day."""

    def __init__(self, count, refused_too):
        self.refused_too = refused_too
        self.deeds = []
        self.heard = [frozenset() for desk in range(count)]
        # For each take that is counted: what its desk had heard of by then.
        self.heard_by_then = {}

    def do(self, deed):
        place = len(self.deeds)
        self.deeds.append(deed)
        kind, desk, last = deed
        if kind == "hear":
            self.heard[desk] = self.heard[desk] | self.heard[last]
        elif kind == "take" and (self.refused_too or last in self.things(desk)):
            self.heard_by_then[place] = self.heard[desk]
        self.heard[desk] = self.heard[desk] | {place}

    def counts_against(self, take, put):
        return self.deeds[take][2] == self.deeds[put][2] and put in self.heard_by_then[take]

    def lying(self, desk):
        """The puts heard of against which no take heard of counts."""
        takes = [place for place in self.heard[desk] if place in self.heard_by_then]
        puts = [place for place in sorted(self.heard[desk]) if self.deeds[place][0] == "put"]
        return [put for put in puts if not any(self.counts_against(take, put) for take in takes)]

    def things(self, desk):
        return sorted({self.deeds[put][2] for put in self.lying(desk)})

    def all_things(self):
        return [self.things(desk) for desk in range(len(self.heard))]

    def puts_on(self, desk):
        return [place for place, deed in enumerate(self.deeds) if deed[:2] == ("put", desk)]

    def book(self, desk):
        lying = self.lying(desk)
        heard = []
        slips = []
        for maker in range(len(self.heard)):
            puts = self.puts_on(maker)
            heard.append(len([put for put in puts if put in self.heard[desk]]))
            for number, put in enumerate(puts, start=1):
                if put in lying:
                    slips.append((maker, number, self.deeds[put][2]))
        return (heard, slips)

    def changes_heard(self, desk):
        """The puts and takes heard of: two desks with the same ones have heard of the same."""
        return frozenset(place for place in self.heard[desk] if self.deeds[place][0] != "hear")


def every_deed(count, things):
    places = [(desk, thing) for desk in range(count) for thing in things]
    hears = [("hear", desk, other) for desk in range(count) for other in range(count)]
    return [("put",) + place for place in places] + [("take",) + place for place in places] + hears


class HeardDeedsTest(unittest.TestCase):
    def model_of(self, count, deeds, refused_too=False):
        model = HeardDeeds(count, refused_too)
        for deed in deeds:
            model.do(deed)
        return model

    def check_same_where_same_heard(self, model, books):
        for desk, other in itertools.combinations(range(len(books)), 2):
            if model.changes_heard(desk) == model.changes_heard(other):
                self.assertEqual(books[desk], books[other])

    def test_example_by_hand(self):
        deeds = [
            ("put", 0, "pen"), ("put", 1, "pen"), ("hear", 2, 0), ("take", 2, "pen"), ("hear", 0, 2), ("hear", 0, 1),
        ]
        model = self.model_of(3, deeds)
        self.assertEqual(model.all_things(), [["pen"], ["pen"], []])
        self.assertEqual(model.book(0), ([1, 1, 0], [(1, 1, "pen")]))
        self.assertEqual(things_behind(3, deeds), [["pen"], ["pen"], []])
        self.assertEqual(books_behind(3, deeds)[0], ([1, 1, 0], [(1, 1, "pen")]))

    def test_every_short_day(self):
        for count, things, length in ((1, ("pen", "ink"), 5), (2, ("pen",), 5), (3, ("pen",), 3), (2, ("pen", "ink"), 3)):
            for deeds in itertools.product(every_deed(count, things), repeat=length):
                model = self.model_of(count, deeds)
                self.assertEqual(things_behind(count, list(deeds)), model.all_things(), deeds)
                books = [model.book(desk) for desk in range(count)]
                self.assertEqual(books_behind(count, list(deeds)), books, deeds)

    def test_at_any_time_of_many_days(self):
        for seed in range(40):
            count = 1 + seed % 5
            deeds = day_of(seed, count, 50, ("pen", "ink", "cup"))
            models = (HeardDeeds(count, False), HeardDeeds(count, True))
            for done, deed in enumerate(deeds, start=1):
                things = things_behind(count, deeds[:done])
                books = books_behind(count, deeds[:done])
                for model in models:
                    model.do(deed)
                    self.assertEqual(things, model.all_things(), deeds[:done])
                    self.assertEqual(books, [model.book(desk) for desk in range(count)], deeds[:done])
                self.check_same_where_same_heard(models[0], books)

    def test_long_days_and_many_desks(self):
        for seed, count, length in ((1, 3, 300), (2, 6, 330), (3, 12, 300), (4, 40, 300), (5, 40, 330), (6, 43, 330)):
            deeds = day_of(seed, count, length)
            books = books_behind(count, deeds)
            things = things_behind(count, deeds)
            for refused_too in (False, True):
                model = self.model_of(count, deeds, refused_too)
                self.assertEqual(things, model.all_things(), seed)
                self.assertEqual(books, [model.book(desk) for desk in range(count)], seed)
            self.check_same_where_same_heard(model, books)

    def test_a_desk_has_heard_of_the_first_slips_of_each_desk(self):
        for seed in range(20):
            count = 2 + seed % 5
            model = self.model_of(count, day_of(seed, count, 80))
            for desk in range(count):
                for maker in range(count):
                    known = [put in model.heard[desk] for put in model.puts_on(maker)]
                    self.assertEqual(known, sorted(known, reverse=True))


def through_the_first(count):
    """Desk nought hears of all others, then all others of it."""
    others = range(1, count)
    return [("hear", 0, desk) for desk in others] + [("hear", desk, 0) for desk in others]


def round_and_round(count):
    return [("hear", desk, (desk + 1) % count) for step in range(count) for desk in range(count)]


def each_of_each(count):
    """Twice, since the first desks to hear miss what others hear of later."""
    return [("hear", desk, other) for desk in range(count) for other in reversed(range(count))] * 2


class AllHeardTest(unittest.TestCase):
    def test_all_desks_have_the_same_book(self):
        for seed in range(30):
            count = 1 + seed % 7
            deeds = day_of(seed, count, 100)
            ends = []
            for way in (through_the_first, round_and_round, each_of_each):
                whole = deeds + way(count)
                books = books_behind(count, whole)
                check_book(self, books[0])
                self.assertEqual(books, [books[0]] * count)
                things = things_behind(count, whole)
                self.assertEqual(things, [things[0]] * count)
                ends.append(books[0])
            self.assertEqual(ends, [ends[0]] * 3)

    def test_forty_desks(self):
        deeds = day_of(7, 40, 220)
        books = books_behind(40, deeds + through_the_first(40))
        self.assertEqual(books, [books[0]] * 40)
        self.assertNotEqual(books[0][1], [])

    def test_heard_again_changes_nothing(self):
        for seed in range(10):
            deeds = day_of(seed, 4, 60) + through_the_first(4)
            books = books_behind(4, deeds)
            self.assertEqual(books_behind(4, deeds + each_of_each(4)), books)


if __name__ == "__main__":
    unittest.main()
