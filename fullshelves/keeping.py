"""Which stocks can be kept, against all customers, and what follows from it (sections 3.2, 4.1).

What `dooms` answers is handed to the other functions as `doomed`.
"""

from fullshelves.shop import MOST_PUT, resized
from fullshelves.stocks import added, fillings_of, full_stock, is_below, stocks_of, taken, takings_of


def dooms(shop):
    """The doom of each stock that has one: a dict without the stocks that can be kept."""
    takings = takings_of(shop)
    filled = {}
    left = {}
    for stock in stocks_of(shop):
        filled[stock] = [added(stock, items) for items in fillings_of(shop, stock)]
        left[stock] = stocks_left(stock, takings)
    doomed = {}
    visits = 1
    fresh = newly_doomed(filled, left, doomed)
    while len(fresh) > 0:
        for stock in fresh:
            doomed[stock] = visits
        visits = visits + 1
        fresh = newly_doomed(filled, left, doomed)
    return doomed


def stocks_left(stock, takings):
    """The stocks that the takings leave; None if of one of them not all is there."""
    left = []
    for taking in takings:
        if not is_below(taking, stock):
            return None
        left.append(taken(stock, taking))
    return left


def newly_doomed(filled, left, doomed):
    """The stocks from which each filling leads, by some taking, to an empty shelf or a doomed stock."""
    firm = {}
    for stock in left:
        if is_firm(left[stock], doomed):
            firm[stock] = True
    return [stock for stock in filled if stock not in doomed and not has_any(firm, filled[stock])]


def is_firm(left, doomed):
    """Whether all is there for each taking, and no doomed stock is left; see stocks_left."""
    return left is not None and not has_any(doomed, left)


def has_any(marked, stocks):
    """Whether one of the stocks is marked."""
    for stock in stocks:
        if stock in marked:
            return True
    return False


def holds(shop, doomed, stock):
    """Whether each taking is there in a stock behind a filling, and leaves one that can be kept."""
    return is_firm(stocks_left(stock, takings_of(shop)), doomed)


def first_filling(shop, doomed, stock):
    """The first filling (section 3.3) that keeps a stock; None if there is none."""
    for items in sorted(fillings_of(shop, stock), key=sum):
        if holds(shop, doomed, added(stock, items)):
            return items
    return None


def first_attack(shop, doomed, stock):
    """The first taking that brings an empty shelf soonest, behind a filling; None if none brings it."""
    takings = takings_of(shop)
    for taking in takings:
        if not is_below(taking, stock):
            return taking
    best = None
    soonest = 0
    for taking in takings:
        doom = doomed.get(taken(stock, taking), 0)
        if doom > 0 and (best is None or doom < soonest):
            best = taking
            soonest = doom
    return best


def least_stocks(shop, doomed):
    """The least stocks that can be kept, in order."""
    least = []
    for stock in stocks_of(shop):
        # What is below a stock comes ahead of it, so the least ones below it are known by now.
        lower = [other for other in least if is_below(other, stock)]
        if stock not in doomed and len(lower) == 0:
            least.append(stock)
    return least


def keeps_full(shop):
    """Whether full shelves can be kept."""
    return full_stock(shop) not in dooms(shop)


def fewest_put(shop):
    """The least number of items at a visit with which full shelves can be kept; None if there is none."""
    for put in range(1, MOST_PUT + 1):
        if keeps_full(resized(shop, put, shop.onto)):
            return put
    return None


def fewest_onto(shop):
    """The least number of shelves at a visit with which full shelves can be kept; None if there is none."""
    for onto in range(1, len(shop.rooms) + 1):
        if keeps_full(resized(shop, shop.put, onto)):
            return onto
    return None


def first_parting(shop, other):
    """The first stock that can be kept in just one of two shops of the same shelves; None if there is none."""
    doomed = dooms(shop)
    doomed_there = dooms(other)
    for stock in stocks_of(shop):
        if (stock in doomed) != (stock in doomed_there):
            return stock
    return None
