"""Promise 13: errors are answered under the given conditions, in the given order.

Of a round, error 10 cannot apply together with 8 or with 11 to 13: behind 30 steps it is the time of a visit,
and sell answers 11 then.
"""

import unittest

from helper import (
    ATTACK, DOOM, FEWEST, FILLING, FORMAT, LEAST, SAFE, ask, begin, fill, look, of_stock, of_text, parting, sell,
    session, undo,
)

TEXT = "shelf tea 2\nshelf jam 1\ncustomers 2 of 1\nstocker 1 onto 1"
LONG = TEXT + " " * 200
LONG_INVALID = "x" * 201
INVALID = "shelf tea 2\nshelf jam 7\ncustomers 2 of 1\nstocker 2 onto 2"
OTHER = TEXT.replace("tea", "oat")
WRONG_STOCK = (3, 0)
NO_ITEMS = ((), (0,), (0, 0, 0), (10, 0), (0, 255), (1, 10))


class Shops(unittest.TestCase):
    def test_texts(self):
        for call in (FORMAT, LEAST, FEWEST):
            self.assertEqual([1, 2], ask(of_text(call, LONG)))
            self.assertEqual([1, 2], ask(of_text(call, LONG_INVALID)))
            self.assertEqual([1, 3, 2, 0], ask(of_text(call, INVALID)))
            self.assertEqual([1, 3, 1, 0], ask(of_text(call, "")))
            self.assertEqual(0, ask(of_text(call, TEXT))[0])

    def test_texts_and_stocks(self):
        for call in (SAFE, FILLING, DOOM, ATTACK):
            for stock in ((1, 1), WRONG_STOCK, ()):
                self.assertEqual([1, 2], ask(of_stock(call, LONG, stock)))
                self.assertEqual([1, 2], ask(of_stock(call, LONG_INVALID, stock)))
                self.assertEqual([1, 3, 2, 0], ask(of_stock(call, INVALID, stock)))
            for stock in (WRONG_STOCK, (), (0,), (0, 0, 0), (0, 2), (255, 255)):
                self.assertEqual([1, 4], ask(of_stock(call, TEXT, stock)))
            self.assertEqual(0, ask(of_stock(call, TEXT, (2, 1)))[0])

    def test_two_texts(self):
        for other in (TEXT, LONG, LONG_INVALID, INVALID, OTHER):
            self.assertEqual([1, 2], ask(parting(LONG, other)))
            self.assertEqual([1, 2], ask(parting(LONG_INVALID, other)))
            self.assertEqual([1, 3, 2, 0], ask(parting(INVALID, other)))
        for first in (TEXT, OTHER):
            self.assertEqual([1, 2], ask(parting(first, LONG)))
            self.assertEqual([1, 2], ask(parting(first, LONG_INVALID)))
            self.assertEqual([1, 3, 2, 0], ask(parting(first, INVALID)))
        self.assertEqual([1, 3, 2, 0], ask(parting(INVALID, INVALID.replace("tea 2", "tea 8"))))
        self.assertEqual([1, 3, 1, 0], ask(parting(INVALID.replace("tea 2", "tea 8"), INVALID)))
        self.assertEqual([1, 6], ask(parting(TEXT, OTHER)))
        self.assertEqual([0, 0], ask(parting(OTHER, OTHER)))


class Rounds(unittest.TestCase):
    def after(self, steps, request):
        """The answer to a request behind a new round in seat 0 and these steps of it."""
        given = session([begin(0, TEXT)] + steps + [request])
        self.assertEqual([[0]] * (len(steps) + 1), given[:-1])
        return given[-1]

    def test_round(self):
        for seat in (8, 9, 255):
            for text in (TEXT, LONG, LONG_INVALID, INVALID, ""):
                self.assertEqual([1, 7], ask(begin(seat, text)))
        for seat in (0, 7):
            self.assertEqual([1, 2], ask(begin(seat, LONG)))
            self.assertEqual([1, 2], ask(begin(seat, LONG_INVALID)))
            self.assertEqual([1, 3, 2, 0], ask(begin(seat, INVALID)))
            self.assertEqual([0], ask(begin(seat, TEXT)))

    def test_no_round(self):
        for seat in (1, 7, 8, 255):
            for items in NO_ITEMS + ((0, 0), (9, 9), (1, 1)):
                self.assertEqual([1, 7], self.after([], fill(seat, items)))
                self.assertEqual([1, 7], self.after([], sell(seat, items)))
            self.assertEqual([1, 7], self.after([], undo(seat)))
            self.assertEqual([1, 7], self.after([], look(seat)))

    def test_fill(self):
        opened = [fill(0, (0, 0))]
        spent = [fill(0, (0, 0)), sell(0, (0, 0))] * 15
        for items in NO_ITEMS:
            self.assertEqual([1, 5], self.after([], fill(0, items)))
            self.assertEqual([1, 5], self.after(opened, fill(0, items)))
            self.assertEqual([1, 5], self.after(spent, fill(0, items)))
        for items in ((0, 0), (1, 0), (9, 9), (0, 1)):
            self.assertEqual([1, 8], self.after(opened, fill(0, items)))
        for items in ((1, 0), (0, 1), (9, 9), (9, 0)):
            self.assertEqual([1, 9], self.after([], fill(0, items)))
            self.assertEqual([1, 9], self.after(spent, fill(0, items)))
        self.assertEqual([1, 10], self.after(spent, fill(0, (0, 0))))
        self.assertEqual([0], self.after(spent[:-2], fill(0, (0, 0))))

    def test_what_is_no_filling(self):
        # Room for it; as many items; as many shelves.
        taken = [fill(0, (0, 0)), sell(0, (1, 1)), fill(0, (0, 0)), sell(0, (1, 0))]
        self.assertEqual([0], self.after(taken, fill(0, (1, 0))))
        self.assertEqual([0], self.after(taken, fill(0, (0, 1))))
        for items in ((3, 0), (0, 2), (2, 0), (1, 1)):
            self.assertEqual([1, 9], self.after(taken, fill(0, items)))
        wide = TEXT.replace("stocker 1 onto 1", "stocker 9 onto 1")
        narrow = TEXT.replace("stocker 1 onto 1", "stocker 1 onto 2")
        for text, items, answer in (
            (wide, (2, 0), [0]), (wide, (3, 0), [1, 9]), (wide, (1, 1), [1, 9]), (wide, (0, 1), [0]),
            (narrow, (1, 1), [1, 9]), (narrow, (2, 0), [1, 9]), (narrow, (1, 0), [0]),
        ):
            self.assertEqual(answer, session([begin(0, text)] + taken + [fill(0, items)])[-1], (text, items))

    def test_sell(self):
        opened = [fill(0, (0, 0))]
        low = [fill(0, (0, 0)), sell(0, (0, 1)), fill(0, (0, 0))]
        spent = [fill(0, (0, 0)), sell(0, (0, 0))] * 15
        for items in NO_ITEMS:
            for steps in ([], opened, low, spent):
                self.assertEqual([1, 5], self.after(steps, sell(0, items)))
        for items in ((0, 0), (1, 1), (2, 0), (0, 2), (9, 9)):
            for steps in ([], low[:2], spent):
                self.assertEqual([1, 11], self.after(steps, sell(0, items)))
        for items in ((2, 0), (0, 2), (9, 9), (1, 2)):
            self.assertEqual([1, 12], self.after(opened, sell(0, items)))
            self.assertEqual([1, 12], self.after(low, sell(0, items)))
        for items in ((0, 1), (1, 1)):
            self.assertEqual([1, 13], self.after(low, sell(0, items)))
            self.assertEqual([0], self.after(opened, sell(0, items)))
        self.assertEqual([0], self.after(low, sell(0, (1, 0))))

    def test_what_is_no_taking(self):
        text = "shelf tea 1\nshelf jam 4\ncustomers 3 of 2\nstocker 1 onto 1"
        for items, answer in (
            ((0, 2), [0]), ((1, 2), [0]), ((2, 1), [1, 13]), ((2, 0), [1, 13]), ((0, 3), [1, 12]), ((3, 0), [1, 12]),
            ((2, 2), [1, 12]), ((1, 3), [1, 12]), ((0, 0), [0]),
        ):
            self.assertEqual(answer, session([begin(0, text), fill(0, (0, 0)), sell(0, items)])[-1], items)

    def test_undo_and_look(self):
        for steps in ([], [fill(0, (0, 0))], [fill(0, (0, 0)), sell(0, (1, 1))]):
            self.assertEqual([0, int(len(steps) > 0)], self.after(steps, undo(0)))
            self.assertEqual(0, self.after(steps, look(0))[0])


if __name__ == "__main__":
    unittest.main()
