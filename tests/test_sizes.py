"""Promise 9: least stocks, fewest items and shelves, and where two shops part."""

import itertools
import unittest

from helper import (
    FEWEST, LEAST, PARTING, SAFE, Courses, ask, ask_each, fewest, is_below, larger_shops, maybe_row, maybe_u8,
    of_stock, of_text, parting, read_rows, small_shops, stocks, text_of,
)


class LeastStocks(unittest.TestCase):
    def test_exactly_the_least_stocks_that_can_be_kept(self):
        shops = list(small_shops()) + larger_shops()
        for shop, answer in zip(shops, ask_each([of_text(LEAST, text_of(shop)) for shop in shops])):
            self.assertEqual(Courses(shop).least(), read_rows(answer), shop)

    def test_a_stock_can_be_kept_if_and_only_if_one_is_below(self):
        for shop in larger_shops():
            text = text_of(shop)
            least = read_rows(ask(of_text(LEAST, text)))
            for stock, answer in zip(stocks(shop), ask_each([of_stock(SAFE, text, s) for s in stocks(shop)])):
                self.assertEqual([0, int(any(is_below(low, stock) for low in least))], answer, (shop, stock))

    def test_in_octets(self):
        self.assertEqual([0, 0, 0], ask(of_text(LEAST, text_of(((1,), 2, 2, 1, 1)))))
        self.assertEqual([0, 1, 0, 1, 0], ask(of_text(LEAST, text_of(((4,), 3, 3, 3, 1)))))
        self.assertEqual([0, 2, 0, 2, 0, 1, 2, 1, 0], ask(of_text(LEAST, text_of(((2, 1), 1, 1, 1, 1)))))

    def test_several_least_stocks_in_order(self):
        text = text_of(((2, 1), 1, 1, 1, 1))
        self.assertEqual([(0, 1), (1, 0)], read_rows(ask(of_text(LEAST, text))))
        text = text_of(((2, 2, 2), 1, 1, 1, 1))
        found = read_rows(ask(of_text(LEAST, text)))
        self.assertEqual(sorted(found), found)
        self.assertGreater(len(found), 1)


class Fewest(unittest.TestCase):
    def test_the_least_numbers(self):
        shops = [shop for shop in small_shops() if shop[3] in (1, 2, 5, 9)] + larger_shops()
        for shop, answer in zip(shops, ask_each([of_text(FEWEST, text_of(shop)) for shop in shops])):
            put, onto = fewest(shop)
            self.assertEqual([0] + maybe_u8(put) + maybe_u8(onto), answer, shop)

    def test_each_number_alone_in_the_place_of_the_shops(self):
        # Two items onto two shelves are needed here: neither number alone makes up for the other.
        self.assertEqual([0, 0, 0], ask(of_text(FEWEST, text_of(((1, 1), 2, 1, 1, 1)))))
        self.assertEqual([0, 0, 1, 2], ask(of_text(FEWEST, text_of(((1, 1), 2, 1, 9, 1)))))
        self.assertEqual([0, 1, 2, 0], ask(of_text(FEWEST, text_of(((1, 1), 2, 1, 1, 2)))))
        self.assertEqual([0, 1, 2, 1, 2], ask(of_text(FEWEST, text_of(((1, 1), 2, 1, 2, 2)))))

    def test_the_shops_own_numbers_may_be_more_than_needed(self):
        self.assertEqual([0, 1, 1, 1, 1], ask(of_text(FEWEST, text_of(((2, 2, 2), 1, 1, 9, 3)))))
        self.assertEqual([0, 1, 4, 1, 1], ask(of_text(FEWEST, text_of(((4,), 4, 4, 4, 1)))))
        self.assertEqual([0, 1, 4, 0], ask(of_text(FEWEST, text_of(((4,), 4, 4, 3, 1)))))


class Parting(unittest.TestCase):
    def test_the_first_stock_that_can_be_kept_in_just_one(self):
        kinds = [(1, 1, 1, 1), (2, 1, 1, 2), (2, 1, 2, 1), (2, 2, 2, 2), (1, 1, 9, 1), (4, 4, 9, 2), (2, 1, 2, 2)]
        for rooms in [(1, 1), (2, 1), (2, 2), (4, 3), (4, 4)]:
            pairs = list(itertools.product(kinds, repeat=2))
            requests = [parting(text_of((rooms,) + one), text_of((rooms,) + other)) for one, other in pairs]
            courses = {kind: Courses((rooms,) + kind) for kind in kinds}
            for (one, other), answer in zip(pairs, ask_each(requests)):
                apart = [
                    stock for stock in stocks((rooms,))
                    if (courses[one].doom(stock) is None) != (courses[other].doom(stock) is None)
                ]
                self.assertEqual([0] + maybe_row(apart[0] if apart else None), answer, (rooms, one, other))

    def test_other_texts_of_the_same_shelves(self):
        text = text_of(((2, 1), 1, 1, 1, 1))
        self.assertEqual([0, 0], ask(parting(text, text.replace(" ", "  ") + "\n")))

    def test_shelves_must_be_the_same(self):
        text = text_of(((2, 1), 1, 1, 1, 1))
        for other in (
            text_of(((2,), 1, 1, 1, 1)), text_of(((2, 1, 1), 1, 1, 1, 1)), text_of(((2, 2), 1, 1, 1, 1)),
            text_of(((1, 2), 1, 1, 1, 1)), text.replace("jam", "jams"),
            text.replace("tea", "x").replace("jam", "tea").replace("x", "jam"),
            text.replace("shelf tea 2\nshelf jam 1", "shelf jam 1\nshelf tea 2"),
        ):
            self.assertNotEqual(text, other)
            self.assertEqual([1, 6], ask(parting(text, other)))
            self.assertEqual([1, 6], ask(parting(other, text)))
            self.assertEqual([0, 0], ask(parting(other, other)))
        self.assertEqual(PARTING, parting(text, text)[0])


if __name__ == "__main__":
    unittest.main()
