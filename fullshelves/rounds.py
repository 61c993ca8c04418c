"""A round of a shop, visit by visit (section 4.2)."""

from fullshelves.errors import NoFilling, NoItems, NoTaking, ShelfFoundEmpty, ShopIsClosed, ShopIsOpen, StepsSpent
from fullshelves.keeping import dooms, first_filling, holds
from fullshelves.stocks import added, fillings_of, full_stock, is_below, taken, takings_of

MOST_STEPS = 30
MOST_OF_ONE = 9


class Round:
    """A round: `past` holds the stocks ahead of each step that was not taken back."""

    def __init__(self, shop):
        self.shop = shop
        self.stock = full_stock(shop)
        self.selling = False
        self.past = []

    def check_items(self, items):
        """Refuse what are no items of the shop."""
        if len(items) != len(self.stock) or max(items) > MOST_OF_ONE:
            raise NoItems()

    def fill(self, items):
        """Put on a filling."""
        self.check_items(items)
        if self.selling:
            raise ShopIsOpen()
        if items not in fillings_of(self.shop, self.stock):
            raise NoFilling()
        self.step(added(self.stock, items))

    def sell(self, items):
        """Take a taking all of which is there."""
        self.check_items(items)
        if not self.selling:
            raise ShopIsClosed()
        if items not in takings_of(self.shop):
            raise NoTaking()
        if not is_below(items, self.stock):
            raise ShelfFoundEmpty()
        self.step(taken(self.stock, items))

    def step(self, stock):
        """Go on to this stock."""
        if len(self.past) == MOST_STEPS:
            raise StepsSpent()
        self.past.append(self.stock)
        self.stock = stock
        self.selling = not self.selling

    def undo(self):
        """Take the last step back; answer whether there was one."""
        if len(self.past) == 0:
            return False
        self.stock = self.past.pop()
        self.selling = not self.selling
        return True

    def outlook(self):
        """Whether all is well, and the hint (None if there is none)."""
        doomed = dooms(self.shop)
        if self.selling:
            return (holds(self.shop, doomed, self.stock), None)
        return (self.stock not in doomed, first_filling(self.shop, doomed, self.stock))
