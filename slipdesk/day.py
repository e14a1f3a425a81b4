"""A day: deeds done one by one on desks that begin with empty books."""

from slipdesk.books import empty_book, put_in, taken_out, things_in
from slipdesk.errors import NoThing
from slipdesk.merging import merged_of


def books_behind(count, deeds):
    books = [empty_book(count) for desk in range(count)]
    for deed in deeds:
        # A deed changes the book of the desk on which it is done, and no other.
        books[deed[1]] = book_behind(books, deed)
    return books


def things_behind(count, deeds):
    return [things_in(book) for book in books_behind(count, deeds)]


def book_behind(books, deed):
    desk = deed[1]
    if deed[0] == "put":
        return put_in(books[desk], desk, deed[2])
    if deed[0] == "take":
        return book_without(books[desk], deed[2])
    return merged_of(books[desk], books[deed[2]])


def book_without(book, thing):
    try:
        return taken_out(book, thing)
    except NoThing:
        # The day goes on behind a refusal.
        return book
