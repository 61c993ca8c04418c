"""Promises 10 and 11: rounds, their steps and their looks; the hints keep, and nothing done before matters."""

import random
import unittest

from helper import (
    ATTACK, DOOM, FEWEST, FILLING, FORMAT, LEAST, SAFE, Courses, Seats, ask, ask_each, begin, fill, fillings, gone,
    is_there, larger_shops, look, look_answer, of_stock, of_text, parting, put_on, read_maybe_row, read_maybe_u16,
    read_rows, sell, session, small_shops, stocks, takings, text_of, undo,
)

SHOP = ((2, 1), 1, 1, 1, 1)
TEXT = text_of(SHOP)
NOTHING = (0, 0)
OUT_AND_BACK = [fill(0, NOTHING), sell(0, NOTHING)]


class Rounds(unittest.TestCase):
    def told(self, pairs):
        """Make the requests in one session; each is to be answered as it is paired."""
        given = session([request for request, answer in pairs])
        self.assertEqual(len(pairs), len(given))
        for number, (request, answer) in enumerate(pairs):
            self.assertEqual(answer, given[number], (number, request))


class Steps(Rounds):
    def test_a_round_begins_with_full_shelves_at_a_visit(self):
        for rooms in ((1,), (4,), (3, 2), (1, 2, 4), (4, 4, 4)):
            text = text_of((rooms, 1, 1, 9, len(rooms)))
            for seat in (0, 7):
                self.told([(begin(seat, text), [0]), (look(seat), look_answer(rooms, False, True, (0,) * len(rooms)))])

    def test_visits_and_takings_follow_one_another(self):
        self.told([
            (begin(0, TEXT), [0]),
            (fill(0, NOTHING), [0]), (look(0), look_answer((2, 1), True, True, None)),
            (sell(0, (1, 0)), [0]), (look(0), look_answer((1, 1), False, True, NOTHING)),
            (fill(0, NOTHING), [0]), (look(0), look_answer((1, 1), True, True, None)),
            (sell(0, (0, 1)), [0]), (look(0), look_answer((1, 0), False, True, (0, 1))),
            (fill(0, (0, 1)), [0]), (look(0), look_answer((1, 1), True, True, None)),
            (sell(0, (1, 0)), [0]), (look(0), look_answer((0, 1), False, True, (1, 0))),
            (fill(0, NOTHING), [0]), (look(0), look_answer((0, 1), True, False, None)),
            (sell(0, (0, 1)), [0]), (look(0), look_answer((0, 0), False, False, None)),
            (fill(0, (1, 0)), [0]), (sell(0, (0, 1)), [1, 13]), (look(0), look_answer((1, 0), True, False, None)),
        ])

    def test_all_may_be_well_no_more_and_well_again(self):
        self.told([
            (begin(1, TEXT), [0]), (fill(1, NOTHING), [0]), (sell(1, (0, 1)), [0]), (fill(1, NOTHING), [0]),
            (look(1), look_answer((2, 0), True, False, None)),
            (sell(1, NOTHING), [0]), (look(1), look_answer((2, 0), False, True, (0, 1))),
        ])

    def test_thirty_steps_and_one_more(self):
        full = look_answer((2, 1), False, True, NOTHING)
        steps = [(step, [0]) for step in OUT_AND_BACK * 15]
        backward = [(undo(0), [0, 1])] * 30 + [(look(0), full), (undo(0), [0, 0]), (look(0), full)]
        self.told([(begin(0, TEXT), [0])] + steps + [(fill(0, NOTHING), [1, 10]), (look(0), full)] + backward)
        self.told([(begin(0, TEXT), [0])] + steps + backward + steps + [(fill(0, NOTHING), [1, 10])])

    def test_a_step_taken_back_makes_room_for_another(self):
        steps = [(step, [0]) for step in OUT_AND_BACK * 15]
        again = [(undo(0), [0, 1]), (sell(0, (1, 0)), [0]), (look(0), look_answer((1, 1), False, True, NOTHING))]
        self.told([(begin(0, TEXT), [0])] + steps + again + [(fill(0, NOTHING), [1, 10])])

    def test_refused_steps_do_not_count(self):
        refused = [(fill(0, (1, 0)), [1, 9]), (fill(0, (0,)), [1, 5]), (sell(0, NOTHING), [1, 11])]
        pairs = [(begin(0, TEXT), [0])]
        for number in range(15):
            pairs += refused + [(fill(0, NOTHING), [0]), (sell(0, (2, 0)), [1, 12]), (sell(0, NOTHING), [0])]
        self.told(pairs + refused + [(fill(0, NOTHING), [1, 10])])


class Undo(Rounds):
    def test_undo_with_no_step(self):
        full = look_answer((2, 1), False, True, NOTHING)
        self.told([(begin(4, TEXT), [0]), (undo(4), [0, 0]), (undo(4), [0, 0]), (look(4), full)])

    def test_undo_restores_what_was_before(self):
        walk = [fill(2, NOTHING), sell(2, (1, 0)), fill(2, (1, 0)), sell(2, (0, 1)), fill(2, NOTHING), sell(2, (1, 0))]
        requests = [begin(2, TEXT), look(2)]
        for step in walk:
            requests += [step, look(2)]
        looks = session(requests)[1::2]
        self.assertEqual(7, len(looks))
        requests = [begin(2, TEXT)] + walk
        for step in walk:
            requests += [look(2), undo(2)]
        given = session(requests + [look(2), undo(2)])[7:]
        self.assertEqual(looks[::-1], given[0::2])
        self.assertEqual([[0, 1]] * 6 + [[0, 0]], given[1::2])

    def test_undo_of_one_step_at_a_time(self):
        self.told([
            (begin(0, TEXT), [0]), (fill(0, NOTHING), [0]), (sell(0, (1, 0)), [0]), (undo(0), [0, 1]),
            (look(0), look_answer((2, 1), True, True, None)), (sell(0, (0, 1)), [0]),
            (look(0), look_answer((2, 0), False, True, (0, 1))), (undo(0), [0, 1]), (undo(0), [0, 1]),
            (look(0), look_answer((2, 1), False, True, NOTHING)), (undo(0), [0, 0]),
        ])

    def test_another_round_leaves_no_step_to_undo(self):
        other = text_of(((3,), 1, 1, 1, 1))
        self.told([
            (begin(0, TEXT), [0]), (fill(0, NOTHING), [0]), (begin(0, other), [0]),
            (look(0), look_answer((3,), False, True, (0,))), (undo(0), [0, 0]), (fill(0, (0,)), [0]),
        ])


class Looks(Rounds):
    def test_well_and_hint_in_every_state(self):
        # From full shelves, each filling and each taking behind it, and each filling of what is left.
        for shop in [((2,), 2, 1, 1, 1), ((2, 2), 2, 1, 1, 2), ((2, 1), 1, 1, 1, 1), ((1, 1, 1), 2, 1, 2, 2),
                     ((2, 2), 2, 1, 2, 1), ((3, 1), 2, 2, 2, 2)]:
            courses = Courses(shop)
            full = tuple(shop[0])
            for taking in takings(shop):
                if not is_there(full, taking):
                    continue
                left = gone(full, taking)
                well = courses.doom(left) is None
                pairs = [
                    (begin(0, text_of(shop)), [0]), (fill(0, (0,) * len(full)), [0]),
                    (look(0), look_answer(full, True, courses.keeps(full), None)), (sell(0, taking), [0]),
                    (look(0), look_answer(left, False, well, courses.filling(left))),
                ]
                for items in fillings(shop, left):
                    there = put_on(left, items)
                    pairs += [
                        (fill(0, items), [0]), (look(0), look_answer(there, True, courses.keeps(there), None)),
                        (undo(0), [0, 1]),
                    ]
                self.told(pairs)

    def test_a_look_changes_nothing(self):
        pairs = [(begin(0, TEXT), [0]), (fill(0, NOTHING), [0])]
        pairs += [(look(0), look_answer((2, 1), True, True, None))] * 40
        self.told(pairs + [(undo(0), [0, 1]), (undo(0), [0, 0])])

    def test_the_hint_is_what_filling_answers(self):
        for shop in larger_shops():
            text, full = text_of(shop), tuple(shop[0])
            nothing = (0,) * len(full)
            for taking in takings(shop):
                if is_there(full, taking):
                    requests = [begin(0, text), fill(0, nothing), sell(0, taking), look(0)]
                    hint = session(requests)[3][4 + len(full):]
                    self.assertEqual([0] + hint, ask(of_stock(FILLING, text, gone(full, taking))))


class HintsKeep(Rounds):
    def course(self, shop, plan, draw):
        """A round of as many steps as there can be, each hint put on; the takings are drawn."""
        stock = tuple(shop[0])
        pairs = [(begin(3, text_of(shop)), [0])]
        for number in range(15):
            items = plan[stock]
            pairs += [(look(3), look_answer(stock, False, True, items)), (fill(3, items), [0])]
            stock = put_on(stock, items)
            pairs += [(look(3), look_answer(stock, True, True, None))]
            taking = draw(takings(shop))
            pairs += [(sell(3, taking), [0])]
            stock = gone(stock, taking)
        return pairs

    def test_nobody_ever_finds_an_empty_shelf(self):
        source = random.Random(20)
        for shop in list(small_shops())[::7] + larger_shops():
            given = ask_each([of_stock(FILLING, text_of(shop), stock) for stock in stocks(shop)])
            plan = dict(zip(stocks(shop), map(read_maybe_row, given)))
            if plan[tuple(shop[0])] is not None:
                self.told(self.course(shop, plan, source.choice))
                self.told(self.course(shop, plan, lambda wanted: source.choice(wanted[-3:])))
                self.told(self.course(shop, plan, lambda wanted: max(wanted, key=sum)))

    def test_hints_make_up_for_what_was_put_on_before(self):
        # Nothing is put on at first, but all is still well: from here on the hints keep.
        shop = ((2, 2), 1, 1, 1, 1)
        pairs = [(begin(0, text_of(shop)), [0])]
        for taking in ((1, 0), (0, 1), (1, 0)):
            pairs += [(fill(0, NOTHING), [0]), (sell(0, taking), [0])]
        pairs += [(look(0), look_answer((0, 1), False, True, (1, 0))), (fill(0, (1, 0)), [0]), (sell(0, (0, 1)), [0])]
        self.told(pairs + [(look(0), look_answer((1, 0), False, True, (0, 1)))])


class AfterAnyRequests(Rounds):
    def test_what_can_be_kept_hangs_on_nothing_done_before(self):
        questions = []
        for shop in (((2, 1), 2, 1, 1, 1), ((2, 1), 2, 1, 2, 2), ((2, 1), 1, 1, 1, 1)):
            text = text_of(shop)
            for stock in stocks(shop):
                questions += [of_stock(call, text, stock) for call in (SAFE, FILLING, DOOM, ATTACK)]
            questions += [of_text(call, text) for call in (FORMAT, LEAST, FEWEST)] + [parting(text, TEXT)]
        alone = [ask(question) for question in questions]
        done = [begin(0, text_of(((2, 1), 4, 4, 1, 1))), fill(0, NOTHING), sell(0, (1, 0)), sell(0, (1, 0)), look(0)]
        self.assertEqual(alone, session(done + questions)[len(done):])
        self.assertEqual(alone, session(questions + done)[:len(questions)])
        self.assertEqual(alone[::-1], session(questions[::-1]))

    def test_in_the_midst_of_rounds(self):
        for shop in larger_shops()[:8]:
            text, courses = text_of(shop), Courses(shop)
            requests = []
            for number, stock in enumerate(stocks(shop)):
                seat = number % 8
                requests += [begin(seat, text), of_stock(DOOM, text, stock), fill(seat, (0,) * len(stock)), look(seat)]
                requests += [of_stock(SAFE, text, stock), of_text(LEAST, text)]
            requests = requests[:300]
            given = session(requests)
            for stock, doom, safe, least in zip(stocks(shop), given[1::6], given[4::6], given[5::6]):
                self.assertEqual(courses.doom(stock), read_maybe_u16(doom))
                self.assertEqual([0, int(courses.doom(stock) is None)], safe)
                self.assertEqual(courses.least(), read_rows(least))


class AnySession(Rounds):
    def drawn(self, source, seats, shops):
        """A request on a seat, and what the second way answers to it."""
        seat = source.choice((0, 1, 2, 3, 7, 8)) if source.random() < 0.5 else source.randrange(2)
        kind = source.choice(("begin", "fill", "fill", "sell", "sell", "sell", "sell", "undo", "look", "look"))
        if kind == "begin" and (seat not in seats.rounds or source.random() < 0.1):
            shop = source.choice(shops)
            return begin(seat, text_of(shop)), seats.begin(seat, shop)
        if kind in ("fill", "sell"):
            count = source.choice((1, 2, 2, 2, 3))
            if seat in seats.rounds and source.random() < 0.95:
                count = len(seats.rounds[seat][0][0])
            items = tuple(source.choice((0, 0, 0, 1, 1, 2, 9, 10) if source.random() < 0.3 else (0, 0, 1))
                          for shelf in range(count))
            if kind == "fill":
                return fill(seat, items), seats.fill(seat, items)
            return sell(seat, items), seats.sell(seat, items)
        if kind == "undo":
            return undo(seat), seats.undo(seat)
        return look(seat), seats.look(seat)

    def test_against_the_second_way(self):
        shops = [((2,), 1, 1, 1, 1), ((2, 1), 1, 1, 1, 1), ((2, 2), 2, 1, 1, 1), ((2, 2), 2, 2, 3, 2),
                 ((1, 1, 1), 2, 1, 2, 2), ((4, 3), 2, 1, 2, 2)]
        for seed in range(60):
            source, seats = random.Random(seed), Seats()
            self.told([self.drawn(source, seats, shops) for number in range(300)])

    def test_long_rounds_against_the_second_way(self):
        shop = ((4, 4), 1, 1, 1, 1)
        for seed in range(20):
            source, seats = random.Random(seed), Seats()
            pairs = [(begin(0, text_of(shop)), seats.begin(0, shop))]
            for number in range(99):
                items = source.choice(((0, 0), (0, 0), (0, 1), (1, 0)))
                pairs += [(fill(0, items), seats.fill(0, items)), (sell(0, items), seats.sell(0, items))]
                if source.random() < 0.3:
                    pairs += [(undo(0), seats.undo(0))]
            self.told(pairs[:300])


if __name__ == "__main__":
    unittest.main()
