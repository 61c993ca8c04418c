"""Stocks, fillings and takings (sections 2.2, 3.1), each as a tuple with a number for each shelf."""


def choices(tops, most, onto):
    """All rows, in order (section 3.3), of a number for each top, from 0 to it.

    They are at most `most` in all, and at most `onto` of them are more than 0.
    """
    rows = [()]
    for top in tops:
        longer = []
        for row in rows:
            for number in range(highest_next(row, top, most, onto) + 1):
                longer.append(row + (number,))
        rows = longer
    return rows


def highest_next(row, top, most, onto):
    """The highest number that can stand behind this row (see choices)."""
    if len(row) - row.count(0) == onto:
        return 0
    return min(top, most - sum(row))


def stocks_of(shop):
    """All stocks of a shop, in order."""
    return choices(shop.rooms, sum(shop.rooms), len(shop.rooms))


def full_stock(shop):
    """The stock with which all shelves are full."""
    return tuple(shop.rooms)


def fillings_of(shop, stock):
    """All fillings of a stock, ordered as items are."""
    return choices([room - there for room, there in zip(shop.rooms, stock)], shop.put, shop.onto)


def takings_of(shop):
    """All takings, in order."""
    return choices([shop.wanted_of_one for room in shop.rooms], shop.wanted, len(shop.rooms))


def is_below(row, other):
    """Whether the other row has nowhere less."""
    for number, most in zip(row, other):
        if number > most:
            return False
    return True


def added(stock, items):
    """The stock after these items were put on."""
    return tuple([there + more for there, more in zip(stock, items)])


def taken(stock, items):
    """The stock after these items, all of which are there, were taken."""
    return tuple([there - gone for there, gone in zip(stock, items)])
