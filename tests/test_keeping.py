"""Promises 3 to 6: stocks, fillings and takings; what can be kept, how soon it cannot, and that more never hurts."""

import itertools
import unittest

from helper import (
    ATTACK, DOOM, FILLING, SAFE, Courses, all_items, ask, ask_each, begin, fill, fillings, gone, is_below, is_filling,
    is_taking, is_there, items_up_to, larger_shops, look, of_stock, put_on, read_maybe_row, read_maybe_u16, sell,
    session, small_shops, stocks, takings, text_of, undo,
)

EVERY_CALL = (SAFE, FILLING, DOOM, ATTACK)


class Stocks(unittest.TestCase):
    def test_exactly_the_stocks(self):
        for rooms in [(1,), (4,), (1, 4), (3, 2), (1, 2, 3), (4, 1, 1)]:
            shop = (rooms, 1, 1, 1, 1)
            handed_in = [()] + [row for count in (1, 2, 3, 4) for row in itertools.product(range(6), repeat=count)]
            handed_in += [(255,) * len(rooms), (0,) * 255]
            given = ask_each([of_stock(SAFE, text_of(shop), row) for row in handed_in])
            for row, answer in zip(handed_in, given):
                self.assertEqual(row in stocks(shop), answer != [1, 4], (rooms, row))
                self.assertIn(answer, ([0, 0], [0, 1], [1, 4]))

    def test_each_call_on_a_stock(self):
        text = text_of(((2, 1), 1, 1, 1, 1))
        for call in EVERY_CALL:
            for row in ((), (0,), (0, 0, 0), (3, 0), (0, 2), (2, 2), (255, 255)):
                self.assertEqual([1, 4], ask(of_stock(call, text, row)))
            for row in stocks(((2, 1),)):
                self.assertEqual(0, ask(of_stock(call, text, row))[0])


class FillingsAndTakings(unittest.TestCase):
    def paths(self, shop):
        """Rows of takings, one for each stock, by which a round comes there from full shelves, nothing put on."""
        paths = {tuple(shop[0]): []}
        found = [tuple(shop[0])]
        for stock in found:
            for taking in takings(shop):
                if is_there(stock, taking) and gone(stock, taking) not in paths:
                    paths[gone(stock, taking)] = paths[stock] + [taking]
                    found.append(gone(stock, taking))
        self.assertEqual(sorted(paths), stocks(shop))
        return paths

    def steps_to(self, shop, path):
        steps = [begin(6, text_of(shop))]
        for taking in path:
            steps += [fill(6, (0,) * len(shop[0])), sell(6, taking)]
        return steps

    def tried(self, steps, calls):
        """Make the steps, then each call, taken back where it succeeds; in sessions of at most 300 requests."""
        while calls:
            part, calls = calls[:110], calls[110:]
            requests, wanted = steps[:], [[0]] * len(steps)
            for call, answer in part:
                requests.append(call)
                wanted.append(answer)
                if answer == [0]:
                    requests.append(undo(6))
                    wanted.append([0, 1])
            for request, answer, given in zip(requests, wanted, session(requests)):
                self.assertEqual(answer, given, (steps, request))

    def test_exactly_the_fillings_of_each_stock(self):
        shops = [((4,), 1, 1, 3, 1), ((4,), 1, 1, 9, 1), ((2, 3), 2, 1, 2, 1), ((2, 3), 2, 2, 3, 2),
                 ((3, 1), 1, 1, 9, 1), ((1, 2, 1), 1, 1, 2, 2), ((2, 1, 2), 3, 2, 9, 2), ((2, 2, 1), 3, 1, 4, 3)]
        for shop in shops:
            handed_in = all_items(shop) if len(shop[0]) < 3 else items_up_to(shop, 3)
            for stock, path in self.paths(shop).items():
                calls = [(fill(6, items), [0] if is_filling(shop, stock, items) else [1, 9]) for items in handed_in]
                self.tried(self.steps_to(shop, path), calls)

    def test_exactly_the_takings(self):
        for wanted in range(1, 5):
            for of_one in range(1, wanted + 1):
                for rooms in ((1,), (4,), (1, 3), (4, 4), (4, 4, 3)):
                    shop = (rooms, wanted, of_one, 1, 1)
                    handed_in = all_items(shop) if len(rooms) < 3 else items_up_to(shop, 5)
                    calls = []
                    for items in handed_in:
                        there = [0] if is_there(rooms, items) else [1, 13]
                        calls.append((sell(6, items), there if is_taking(shop, items) else [1, 12]))
                    self.tried([begin(6, text_of(shop)), fill(6, (0,) * len(rooms))], calls)

    def test_as_many_as_the_limits_tell(self):
        # 35 takings and 115 fillings at most (section 6).
        shop = ((4, 4, 4), 4, 4, 9, 3)
        self.assertEqual((35, 115), (len(takings(shop)), len(fillings(shop, (0, 0, 0)))))
        self.assertEqual(125, len(stocks(shop)))
        calls = [(sell(6, items), [0] if is_taking(shop, items) else [1, 12]) for items in items_up_to(shop, 4)]
        self.tried([begin(6, text_of(shop)), fill(6, (0, 0, 0))], calls)
        empty = [begin(6, text_of(shop))] + [
            step for taking in ((4, 0, 0), (0, 4, 0), (0, 0, 4)) for step in (fill(6, (0, 0, 0)), sell(6, taking))
        ]
        self.tried(empty, [
            (fill(6, items), [0] if is_filling(shop, (0, 0, 0), items) else [1, 9]) for items in items_up_to(shop, 4)
        ])


class Outcomes(unittest.TestCase):
    """What the program answers of a shop, as dicts by stock."""

    def dooms(self, shops):
        pairs = [(shop, stock) for shop in shops for stock in stocks(shop)]
        given = ask_each([of_stock(DOOM, text_of(shop), stock) for shop, stock in pairs])
        safe = ask_each([of_stock(SAFE, text_of(shop), stock) for shop, stock in pairs])
        found = {}
        for (shop, stock), answer, flag in zip(pairs, given, safe):
            doom = read_maybe_u16(answer)
            self.assertEqual([0, 1] if doom is None else [0, 0], flag, (shop, stock))
            found.setdefault(shop, {})[stock] = doom
        return found


class HowSoon(Outcomes):
    def test_courses_followed_visit_by_visit(self):
        for shop, dooms in self.dooms(list(small_shops()) + larger_shops()).items():
            courses = Courses(shop)
            for stock, doom in dooms.items():
                if doom is not None:
                    self.assertTrue(courses.forced(stock, doom), (shop, stock))
                    self.assertFalse(courses.forced(stock, doom - 1), (shop, stock))
                else:
                    self.assertFalse(courses.forced(stock, len(dooms)), (shop, stock))

    def test_the_least_and_the_greatest_doom(self):
        # 11 is the greatest of all shops (found by going through them, but for the order of shelves).
        shop = ((4, 4, 4), 3, 1, 2, 2)
        dooms = self.dooms([shop])[shop]
        self.assertEqual(11, dooms[(4, 4, 4)])
        self.assertEqual(set(range(1, 12)), set(dooms.values()))
        courses = Courses(shop)
        self.assertTrue(courses.forced((4, 4, 4), 11))
        self.assertFalse(courses.forced((4, 4, 4), 10))
        shop = ((4, 4), 2, 1, 1, 1)
        self.assertEqual(8, self.dooms([shop])[shop][(4, 4)])
        shop = ((4,), 2, 2, 1, 1)
        self.assertEqual({(0,): 1, (1,): 2, (2,): 3, (3,): 4, (4,): 4}, self.dooms([shop])[shop])

    def test_full_shelves_that_are_doomed_at_once(self):
        shop = ((1, 4), 2, 2, 9, 2)
        self.assertEqual({1}, set(self.dooms([shop])[shop].values()))

    def test_visits_are_counted_not_steps(self):
        shop = ((1,), 1, 1, 1, 1)
        self.assertEqual({(0,): None, (1,): None}, self.dooms([shop])[shop])
        shop = ((2,), 2, 2, 1, 1)
        self.assertEqual({(0,): 1, (1,): 2, (2,): 2}, self.dooms([shop])[shop])


class Kept(Outcomes):
    def test_a_plan_keeps_what_is_told_to_be_safe(self):
        # The plan is what filling answers; all that can come of it is gone through.
        shops = list(small_shops()) + larger_shops()
        pairs = [(shop, stock) for shop in shops for stock in stocks(shop)]
        given = ask_each([of_stock(FILLING, text_of(shop), stock) for shop, stock in pairs])
        plan = {pair: read_maybe_row(answer) for pair, answer in zip(pairs, given)}
        for shop, dooms in self.dooms(shops).items():
            wanted = takings(shop)
            for stock, doom in dooms.items():
                items = plan[shop, stock]
                self.assertEqual(doom is None, items is not None, (shop, stock))
                if items is not None:
                    self.assertTrue(is_filling(shop, stock, items), (shop, stock))
                    for taking in wanted:
                        self.assertTrue(is_there(put_on(stock, items), taking), (shop, stock))
                        self.assertIsNone(dooms[gone(put_on(stock, items), taking)], (shop, stock))

    def test_more_never_hurts(self):
        for shop, dooms in self.dooms(list(small_shops()) + larger_shops()).items():
            for stock, other in itertools.product(dooms, repeat=2):
                if dooms[stock] is None and is_below(stock, other):
                    self.assertIsNone(dooms[other], (shop, stock, other))

    def test_stocks_that_full_shelves_never_come_to(self):
        # Nobody takes both items of a shelf at once here, and yet the empty stock is asked for.
        shop = ((2, 2), 1, 1, 2, 2)
        self.assertIsNone(self.dooms([shop])[shop][(0, 0)])
        shop = ((2, 2), 1, 1, 1, 1)
        self.assertEqual(1, self.dooms([shop])[shop][(0, 0)])

    def test_customers_may_take_from_several_shelves(self):
        shop = ((1, 1), 2, 1, 1, 1)
        self.assertEqual(2, self.dooms([shop])[shop][(1, 1)])
        shop = ((1, 1), 2, 1, 2, 2)
        self.assertIsNone(self.dooms([shop])[shop][(1, 1)])

    def test_well_is_what_safe_tells(self):
        for shop in larger_shops():
            text = text_of(shop)
            full = tuple(shop[0])
            answer = session([begin(0, text), look(0)])[1]
            self.assertEqual(ask(of_stock(SAFE, text, full))[1], answer[3 + len(full)])


if __name__ == "__main__":
    unittest.main()
