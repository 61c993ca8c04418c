"""Promises 7 and 8: fillings that keep, and attacks."""

import unittest

from helper import (
    ATTACK, FILLING, Courses, ask, ask_each, fillings, gone, is_taking, is_there, larger_shops, maybe_row, of_stock,
    put_on, read_maybe_row, small_shops, stocks, takings, text_of,
)


class Outcomes(unittest.TestCase):
    def answers_of(self, call, shops):
        pairs = [(shop, stock) for shop in shops for stock in stocks(shop)]
        return zip(pairs, ask_each([of_stock(call, text_of(shop), stock) for shop, stock in pairs]))


class Fillings(Outcomes):
    def test_the_first_filling_that_keeps(self):
        shops = list(small_shops()) + larger_shops()
        courses = {shop: Courses(shop) for shop in shops}
        for (shop, stock), answer in self.answers_of(FILLING, shops):
            self.assertEqual([0] + maybe_row(courses[shop].filling(stock)), answer, (shop, stock))

    def test_no_filling_of_fewer_items_keeps(self):
        for shop in larger_shops():
            courses = Courses(shop)
            for (same, stock), answer in self.answers_of(FILLING, [shop]):
                items = read_maybe_row(answer)
                self.assertEqual(items is None, courses.doom(stock) is not None, (shop, stock))
                if items is not None:
                    self.assertTrue(courses.keeps(put_on(stock, items)), (shop, stock))
                    fewer = [other for other in fillings(shop, stock) if sum(other) < sum(items)]
                    self.assertFalse(any(courses.keeps(put_on(stock, other)) for other in fewer), (shop, stock))

    def test_nothing_at_all_is_a_filling(self):
        text = text_of(((2, 2), 1, 1, 9, 2))
        self.assertEqual([0, 1, 2, 0, 0], ask(of_stock(FILLING, text, (2, 2))))
        self.assertEqual([0, 1, 2, 0, 0], ask(of_stock(FILLING, text, (1, 1))))

    def test_fewer_items_come_ahead_of_fewer_on_the_first_shelf(self):
        shop = ((4, 4), 4, 2, 4, 1)
        courses = Courses(shop)
        keeping = [items for items in fillings(shop, (3, 2)) if courses.keeps(put_on((3, 2), items))]
        self.assertEqual([(1, 0), (0, 2)], keeping)
        self.assertEqual([0, 1, 2, 1, 0], ask(of_stock(FILLING, text_of(shop), (3, 2))))

    def test_of_as_many_items_the_first(self):
        shop = ((2, 2), 2, 1, 2, 1)
        courses = Courses(shop)
        keeping = [items for items in fillings(shop, (1, 1)) if courses.keeps(put_on((1, 1), items))]
        self.assertEqual([(0, 1), (1, 0)], keeping)
        self.assertEqual([0, 1, 2, 0, 1], ask(of_stock(FILLING, text_of(shop), (1, 1))))


class Attacks(Outcomes):
    def test_the_first_attack_that_is_soonest(self):
        shops = list(small_shops()) + larger_shops()
        courses = {shop: Courses(shop) for shop in shops}
        for (shop, stock), answer in self.answers_of(ATTACK, shops):
            self.assertEqual([0] + maybe_row(courses[shop].attack(stock)), answer, (shop, stock))

    def test_what_an_attack_brings(self):
        for shop in larger_shops():
            courses = Courses(shop)
            for (same, stock), answer in self.answers_of(ATTACK, [shop]):
                items = read_maybe_row(answer)
                wanted = takings(shop)
                self.assertEqual(items is None, courses.keeps(stock), (shop, stock))
                if items is not None and not is_there(stock, items):
                    self.assertTrue(is_taking(shop, items))
                elif items is not None:
                    self.assertTrue(all(is_there(stock, taking) for taking in wanted), (shop, stock))
                    left = [courses.doom(gone(stock, taking)) for taking in wanted]
                    self.assertEqual(min(doom for doom in left if doom), courses.doom(gone(stock, items)))

    def test_takings_are_not_ordered_by_how_many_items_they_take(self):
        # (0, 2) takes more than (1, 0), and comes first; neither is there.
        text = text_of(((2, 2), 2, 2, 1, 1))
        self.assertEqual([0, 1, 2, 0, 2], ask(of_stock(ATTACK, text, (0, 1))))
        self.assertEqual([0, 1, 2, 0, 1], ask(of_stock(ATTACK, text, (0, 0))))

    def test_a_taking_that_is_not_there_ahead_of_one_that_leaves_a_doomed_stock(self):
        # Taking nothing leaves (0, 1), which is doomed; but the second shelf's two items are not there.
        text = text_of(((1, 2), 2, 2, 1, 1))
        self.assertEqual([0, 1, 2, 0, 2], ask(of_stock(ATTACK, text, (0, 1))))

    def test_of_the_soonest_ones_the_first_and_not_the_first_of_all(self):
        text = text_of(((2, 2, 2), 2, 1, 2, 1))
        self.assertEqual([0, 1, 3, 0, 1, 1], ask(of_stock(ATTACK, text, (2, 2, 2))))
        courses = Courses(((2, 2, 2), 2, 1, 2, 1))
        self.assertEqual([4, 4, 3, 3], [courses.doom(s) for s in ((2, 2, 2), (2, 2, 1), (2, 1, 1), (1, 2, 1))])

    def test_an_attack_is_on_a_stock_behind_a_filling(self):
        # At a visit (0, 0) could be filled; behind a filling it cannot be any more.
        text = text_of(((2, 1), 2, 1, 2, 2))
        self.assertEqual([0, 1, 2, 1, 1], ask(of_stock(FILLING, text, (0, 0))))
        self.assertEqual([0, 1, 2, 0, 1], ask(of_stock(ATTACK, text, (0, 0))))
        self.assertEqual([0, 0], ask(of_stock(ATTACK, text, (1, 1))))


if __name__ == "__main__":
    unittest.main()
