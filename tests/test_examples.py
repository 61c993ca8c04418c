"""What the document works out: the two examples of the interface, and the instances of section 1."""

import unittest

from fullshelves.session import answers
from helper import (
    ATTACK, DOOM, FEWEST, FILLING, FORMAT, LEAST, SAFE, ask, begin, fill, look, look_answer, of_stock,
    of_text, parting, sell, session, text_part,
)

SHELVES = "shelf tea 2\nshelf jam 1\n"
SHOP = SHELVES + "customers 2 of 1\nstocker 2 onto 2"
SLOW = SHELVES + "customers 2 of 1\nstocker 1 onto 1"
CALM = SHELVES + "customers 1 of 1\nstocker 1 onto 1"

TEA = [
    115, 104, 101, 108, 102, 32, 116, 101, 97, 32, 50, 10, 99, 117, 115, 116, 111, 109, 101, 114, 115, 32,
    49, 32, 111, 102, 32, 49, 10, 115, 116, 111, 99, 107, 101, 114, 32, 49, 32, 111, 110, 116, 111, 32, 49,
]


class Interface(unittest.TestCase):
    def test_the_two_examples_octet_by_octet(self):
        self.assertEqual(45, len(TEA))
        calls = [0, 49, 9, 2, 45, 0] + TEA + [0, 2, 13, 2]
        self.assertEqual([1, 0, 8, 0, 1, 2, 0, 1, 1, 1, 0], answers(calls))

    def test_a_text_is_answered_behind_its_length(self):
        self.assertEqual([48, 0, 45, 0] + TEA, answers([0, 48, 1, 45, 0] + TEA))
        self.assertEqual([48, 0, 45, 0] + TEA, answers([0, 50, 1, 47, 0] + TEA + [32, 10]))

    def test_answers_stand_behind_their_lengths(self):
        # Of errors, too: 1 and the number of the error; behind error 3 the number of the line.
        calls = [0, 0, 0, 2, 13, 0, 0, 3, 1, 0, 0, 0, 1, 200]
        self.assertEqual([2, 1, 1, 2, 1, 7, 4, 1, 3, 1, 0, 2, 1, 1], answers(calls))

    def test_numbers_are_plain_whole_numbers(self):
        requests = [of_stock(SAFE, SHOP, (0, 0)), of_text(LEAST, SHOP), begin(0, SHOP), look(0), [12, 0]]
        for request in requests:
            calls = [0, len(request)] + request
            given = answers(calls)
            self.assertIs(list, type(given))
            self.assertEqual({int}, {type(number) for number in given})


class SectionOne(unittest.TestCase):
    def test_the_shop_of_tea_and_jam(self):
        self.assertEqual([0] + text_part(SHOP), ask(of_text(FORMAT, SHOP)))
        self.assertEqual([0, 1], ask(of_stock(SAFE, SHOP, (0, 0))))
        self.assertEqual([0, 1, 2, 1, 1], ask(of_stock(FILLING, SHOP, (0, 0))))
        self.assertEqual([0, 0], ask(of_stock(DOOM, SHOP, (0, 0))))
        self.assertEqual([0, 1, 2, 1, 2], ask(of_text(FEWEST, SHOP)))
        self.assertEqual([0, 1, 0, 2, 0, 0], ask(of_text(LEAST, SHOP)))

    def test_a_stocker_of_one_item(self):
        self.assertEqual([0, 0], ask(of_stock(SAFE, SLOW, (2, 1))))
        self.assertEqual([0, 0], ask(of_stock(FILLING, SLOW, (2, 1))))
        self.assertEqual([0, 1, 3, 0], ask(of_stock(DOOM, SLOW, (2, 1))))
        self.assertEqual([0, 1, 2, 1, 1], ask(of_stock(ATTACK, SLOW, (1, 1))))
        self.assertEqual([0, 0, 0], ask(of_text(LEAST, SLOW)))

    def test_where_both_part(self):
        self.assertEqual([0, 1, 2, 0, 0], ask(parting(SHOP, SLOW)))
        self.assertEqual([0, 1, 2, 0, 0], ask(parting(SLOW, SHOP)))
        self.assertEqual([0, 0], ask(parting(SHOP, SHOP)))

    def test_calm_customers(self):
        self.assertEqual([0, 2, 0, 2, 0, 1, 2, 1, 0], ask(of_text(LEAST, CALM)))
        requests = [begin(5, CALM), fill(5, (0, 0)), sell(5, (1, 0)), look(5)]
        self.assertEqual([[0], [0], [0], look_answer((1, 1), False, True, (0, 0))], session(requests))


class Sessions(unittest.TestCase):
    def test_nothing_is_kept_from_one_list_to_the_next(self):
        self.assertEqual([[0], look_answer((2, 1), False, True, (0, 0))], session([begin(3, SHOP), look(3)]))
        self.assertEqual([[1, 7]] * 8, session([look(seat) for seat in range(8)]))
        self.assertEqual([[0], [0]], session([begin(3, CALM), fill(3, (0, 0))]))
        self.assertEqual([[0], [0]], session([begin(3, CALM), fill(3, (0, 0))]))

    def test_what_is_handed_in_is_not_changed(self):
        requests = [begin(0, SHOP), fill(0, (0, 0)), sell(0, (1, 1)), look(0), [12, 0], [], of_text(LEAST, SHOP)]
        calls = Untouched()
        for request in requests:
            list.extend(calls, [0, len(request)] + request)
        before = list(calls)
        answers(calls)
        self.assertEqual(before, list(calls))

    def test_a_list_of_300_requests(self):
        requests = [begin(seat % 8, CALM) for seat in range(100)] + [look(1), fill(1, (0, 0)), [12, 1], [99]] * 50
        given = session(requests)
        self.assertEqual(300, len(given))
        self.assertEqual([[0]] * 100, given[:100])
        self.assertEqual([look_answer((2, 1), False, True, (0, 0)), [0], [0, 1], [1, 1]] * 50, given[100:])

    def test_300_of_the_longest_calls(self):
        text = "shelf a 4\nshelf b 4\nshelf c 4\ncustomers 4 of 4\nstocker 9 onto 2"
        self.assertEqual([[0, 0, 1, 3]] * 300, session([of_text(FEWEST, text)] * 300))

    def test_one_request_as_long_as_the_list_may_be(self):
        self.assertEqual([1, 2], ask([FORMAT, 67, 238] + [32] * 60995))
        self.assertEqual([1, 1], ask([FORMAT, 66, 238] + [32] * 60995))
        self.assertEqual([1, 1], ask([0] * 60998))


class Untouched(list):
    """A list that cannot be changed by its methods."""

    def refuse(self, *given):
        raise AssertionError("changed what was handed in")

    append = extend = insert = pop = remove = clear = sort = reverse = refuse
    __setitem__ = __delitem__ = __iadd__ = __imul__ = refuse


if __name__ == "__main__":
    unittest.main()
