"""Promises 1 and 2: lines, words, digits, the line at fault; shops and their canonical texts."""

import itertools
import unittest

from helper import FORMAT, ask, ask_each, of_text, read_text, text_part

FIRST = "shelf tea 2"
CUSTOMERS = "customers 2 of 1"
STOCKER = "stocker 2 onto 1"
PLAIN = "\n".join([FIRST, CUSTOMERS, STOCKER])


class Texts(unittest.TestCase):
    def reads(self, text, canonical):
        self.assertEqual([0] + text_part(canonical), ask(of_text(FORMAT, text)), text)

    def faults(self, text, line):
        self.assertEqual([1, 3, line, 0], ask(of_text(FORMAT, text)), text)


class LinesAndWords(Texts):
    def test_several_spaces(self):
        self.reads("  shelf   tea  2 \n customers 2   of 1\nstocker  2 onto 1   ", PLAIN)

    def test_lines_without_words_are_ignored(self):
        self.reads("\n \n" + FIRST + "\n\n" + CUSTOMERS + "\n   \n" + STOCKER + "\n", PLAIN)
        self.reads(PLAIN + "\n\n \n\n", PLAIN)

    def test_lines_without_words_count(self):
        self.faults("\n \nshelf tea 5", 3)
        self.faults(FIRST + "\n\n\n" + CUSTOMERS + "\n \nstocker 2 on 1\n", 6)

    def test_only_spaces_part_words_and_only_newlines_part_lines(self):
        self.faults(PLAIN.replace(" ", "\t", 1), 1)
        self.faults(PLAIN.replace("\n", "\r\n", 1), 1)
        self.faults(PLAIN.replace("\n", "\r", 1), 1)
        self.faults(PLAIN.replace("\n", "\v", 1), 1)
        self.faults(PLAIN.replace("\n", " ", 1), 1)
        self.faults(PLAIN.replace(" ", "\xa0", 1), 1)
        self.faults(PLAIN + "\n\t", 4)
        self.faults(PLAIN + "\n\x00", 4)

    def test_words_run_together_or_broken(self):
        self.faults("shelftea 2\n" + CUSTOMERS + "\n" + STOCKER, 1)
        self.faults("shelf tea2\n" + CUSTOMERS + "\n" + STOCKER, 1)
        self.faults("shelf t ea 2\n" + CUSTOMERS + "\n" + STOCKER, 1)
        self.faults(FIRST + "\ncust omers 2 of 1\n" + STOCKER, 2)


class Lengths(Texts):
    def test_200_and_201_octets(self):
        for filler in (" ", "\n"):
            self.reads(PLAIN + filler * (200 - len(PLAIN)), PLAIN)
            self.reads(filler * (200 - len(PLAIN)) + PLAIN, PLAIN)
            self.assertEqual([1, 2], ask(of_text(FORMAT, PLAIN + filler * (201 - len(PLAIN)))))
        self.assertEqual([1, 2], ask(of_text(FORMAT, " " * 60995)))
        self.assertEqual([1, 2], ask(of_text(FORMAT, PLAIN + " " * (256 - len(PLAIN)))))

    def test_the_number_of_the_last_line(self):
        self.faults("", 1)
        self.faults(" ", 1)
        self.faults("\n", 2)
        self.faults("\n" * 200, 201)
        self.faults("\n" * 199 + "x", 200)
        self.faults(FIRST, 1)
        self.faults(FIRST + "\n", 2)
        self.faults(FIRST + "\n" + CUSTOMERS, 2)
        self.faults(FIRST + "\n" + CUSTOMERS + "\n", 3)
        self.faults(FIRST + "\n" + CUSTOMERS + "\n\n  \n", 5)


class Digits(Texts):
    def of_places(self, form, allowed):
        """Each octet, and some longer words, as the digit of a form; behind it stands one more line."""
        words = [chr(octet) for octet in range(256) if octet not in (10, 32)]
        words += ["", " ", "01", "11", "10", "00", "1.", "+1", "-1", "1a", "one"]
        line = form[:form.index("?")].count("\n") + 1
        given = ask_each([of_text(FORMAT, form.replace("?", word) + "\n") for word in words])
        for word, answer in zip(words, given):
            right = [0] + text_part(form.replace("?", word))
            self.assertEqual(right if word and word in allowed else [1, 3, line, 0], answer, repr(word))

    def test_rooms_from_1_to_4(self):
        self.of_places("shelf tea ?\ncustomers 2 of 1\nstocker 2 onto 1", "1234")

    def test_wanted_from_1_to_4(self):
        self.of_places("shelf tea 1\ncustomers ? of 1\nstocker 2 onto 1", "1234")

    def test_wanted_of_one_up_to_wanted(self):
        for wanted in range(1, 5):
            form = f"shelf tea 1\ncustomers {wanted} of ?\nstocker 2 onto 1"
            self.of_places(form, "1234"[:wanted])

    def test_put_from_1_to_9(self):
        self.of_places("shelf tea 1\ncustomers 1 of 1\nstocker ? onto 1", "123456789")

    def test_onto_up_to_the_number_of_shelves(self):
        shelves = ["shelf a 1\n", "shelf b 2\n", "shelf c 3\n"]
        for count in (1, 2, 3):
            form = "".join(shelves[:count]) + "customers 1 of 1\nstocker 4 onto ?"
            self.of_places(form, "123"[:count])


class Names(Texts):
    def with_name(self, name):
        return PLAIN.replace("tea", name)

    def test_1_8_and_9_letters(self):
        for name in ("a", "z", "az", "abcdefgh", "zzzzzzzz", "shelf", "stocker", "of", "onto"):
            self.reads(self.with_name(name), self.with_name(name))
        for name in ("abcdefghi", "customers", "a" * 30):
            self.faults(self.with_name(name), 1)

    def test_letters_are_a_to_z(self):
        for octet in range(256):
            name = "q" + chr(octet)
            if 97 <= octet <= 122:
                self.reads(self.with_name(name), self.with_name(name))
            elif octet not in (10, 32):
                self.faults(self.with_name(name), 1)

    def test_no_name_twice(self):
        rest = "\n" + CUSTOMERS + "\n" + STOCKER
        self.faults("shelf tea 2\nshelf tea 2" + rest, 2)
        self.faults("shelf tea 2\nshelf jam 1\nshelf tea 1" + rest, 3)
        self.faults("shelf tea 2\nshelf jam 1\n\nshelf jam 1" + rest, 4)
        self.reads("shelf tea 2\nshelf tee 2\nshelf te 2" + rest, "shelf tea 2\nshelf tee 2\nshelf te 2" + rest)


class Orders(Texts):
    def test_one_to_three_shelves_and_a_fourth(self):
        shelves = ["shelf d 4", "shelf c 3", "shelf b 2", "shelf a 1"]
        for count in (1, 2, 3):
            text = "\n".join(shelves[:count] + [CUSTOMERS, STOCKER])
            self.reads(text, text)
        self.faults("\n".join(shelves + [CUSTOMERS, STOCKER]), 4)
        self.faults("\n".join([CUSTOMERS, STOCKER]), 1)
        self.faults(STOCKER, 1)

    def test_every_order_of_lines(self):
        lines = {"s": "shelf tea 2", "t": "shelf jam 1", "c": CUSTOMERS, "k": STOCKER}
        for count in range(5):
            for order in itertools.product("stck", repeat=count):
                text = "\n".join(lines[sign] for sign in order)
                place = fault_of(order)
                if place == 0:
                    self.reads(text, text)
                else:
                    self.faults(text, place)

    def test_anything_behind_the_stocker(self):
        for line in (STOCKER, CUSTOMERS, "shelf jam 1", "x", "  .", "0"):
            self.faults(PLAIN + "\n" + line, 4)
            self.faults(PLAIN + "\n\n" + line + "\n", 5)

    def test_the_first_invalid_line_is_told(self):
        self.faults("shelf tea 9\ncustomers 9 of 9\nstocker 0 onto 0", 1)
        self.faults("shelf tea 1\ncustomers 9 of 9\nstocker 0 onto 0", 2)
        self.faults("shelf tea 1\ncustomers 1 of 1\nstocker 0 onto 0", 3)
        self.faults("shelf tea 1\ncustomers 9 of 9", 2)

    def test_forms_of_lines(self):
        for line in ("shelf", "shelf tea", "shelf tea 2 2", "shelf tea 2 x", "Shelf tea 2", "shelv tea 2", "tea 2",
                     "shelf 2 tea", "shelfs tea 2", "shelf tea two", "shelf \xe4 2"):
            self.faults("\n".join([line, CUSTOMERS, STOCKER]), 1)
        for line in ("customers", "customers 2", "customers 2 of", "customers 2 of 1 1", "customers 2 off 1",
                     "customers 2 onto 1", "customer 2 of 1", "customers 1 of 2", "customers of 2 1", "2 of 1",
                     "customers 2 1", "customers 2 OF 1", "stocker 2 of 1"):
            self.faults("\n".join([FIRST, line, STOCKER]), 2)
        for line in ("stocker", "stocker 2", "stocker 2 onto", "stocker 2 onto 1 1", "stocker 2 of 1", "2 onto 1",
                     "stocker 2 onto 2", "stockers 2 onto 1", "stocker onto 2 1", "stocker 2 1",
                     "customers 2 onto 1"):
            self.faults("\n".join([FIRST, CUSTOMERS, line]), 3)


class Canonical(Texts):
    def test_its_length_stands_ahead_of_it(self):
        # The least and the greatest length of a canonical text; the length is not that of the text handed in.
        least = "shelf a 1\ncustomers 1 of 1\nstocker 1 onto 1"
        shelves = "shelf abcdefgh 4\nshelf abcdefgi 4\nshelf abcdefgj 4"
        greatest = shelves + "\ncustomers 4 of 4\nstocker 9 onto 3"
        for text, length in ((least, 43), (greatest, 84)):
            for given in (text, "  " + text + " \n", text.replace(" ", "   "), "\n" * 50 + text.replace("\n", "\n \n")):
                answer = ask(of_text(FORMAT, given))
                self.assertEqual([0, length, 0], answer[:3], given)
                self.assertEqual([ord(sign) for sign in text], answer[3:], given)

    def test_the_canonical_text_is_read_as_the_same_shop(self):
        requests = []
        for rooms in itertools.product((1, 2, 4), repeat=3):
            for count in (1, 2, 3):
                shelves = [f"  shelf  {name}   {room} " for name, room in zip(("jam", "zz", "abcdefgh"), rooms)][:count]
                for wanted, of_one, put in ((1, 1, 9), (4, 3, 1), (3, 3, 5)):
                    lines = shelves + [f" customers {wanted} of  {of_one}", "", f"stocker {put}  onto {count} "]
                    requests.append(of_text(FORMAT, "\n".join(lines)))
        for request, answer in zip(requests, ask_each(requests)):
            text = read_text(answer)
            self.assertEqual(" ".join("".join(map(chr, request[3:])).split()), " ".join(text.split()))
            self.assertEqual(text, "\n".join(" ".join(line.split(" ")) for line in text.split("\n")))
            self.assertEqual(answer, ask(of_text(FORMAT, text)))


def fault_of(order):
    """The number of the line at fault in a row of lines s, t (shelves), c, k; 0 if there is none."""
    seen = []
    for number, sign in enumerate(order, start=1):
        if sign in "st":
            right = sign not in seen and "c" not in seen
        elif sign == "c":
            right = len(seen) > 0 and "c" not in seen
        else:
            right = "c" in seen and "k" not in seen
        if "k" in seen or not right:
            return number
        seen.append(sign)
    return 0 if "k" in seen else max(1, len(order))


if __name__ == "__main__":
    unittest.main()
