"""Two desks' books brought together."""


def unheard_of(slips, heard):
    return [slip for slip in slips if slip[1] > heard[slip[0]]]


def merged_of(book, other):
    heard = [max(pair) for pair in zip(book[0], other[0])]
    in_both = [slip for slip in book[1] if slip in other[1]]
    # A slip that only one has is new to the other, or was taken out; what was heard of tells which.
    in_one = unheard_of(book[1], other[0]) + unheard_of(other[1], book[0])
    return (heard, sorted(in_both + in_one))
