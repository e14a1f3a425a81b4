"""A desk's book, what is in it, and how it is changed.

A book is a pair (heard, slips), a slip is a tuple (desk, number, thing).
"""

from slipdesk.errors import NoThing


def empty_book(count):
    return ([0] * count, [])


def things_in(book):
    return sorted(set([slip[2] for slip in book[1]]))


def put_in(book, desk, thing):
    heard = list(book[0])
    # Slips that were taken out keep their numbers, so what was heard of is counted, not what lies here.
    number = heard[desk] + 1
    heard[desk] = number
    # The new number is the greatest of its desk, so its place is behind all others of that desk.
    ahead = [slip for slip in book[1] if slip[0] <= desk]
    behind = [slip for slip in book[1] if slip[0] > desk]
    return (heard, ahead + [(desk, number, thing)] + behind)


def taken_out(book, thing):
    kept = [slip for slip in book[1] if slip[2] != thing]
    if len(kept) == len(book[1]):
        raise NoThing(f"no slip with {thing} lies in the book")
    # A copy, so that no list belongs both to the answer and to the book that was handed in.
    return (list(book[0]), kept)
