"""Points 8 and 9: choose, chosen."""

import unittest

from asking import HIGHEST, LOWEST, ask

BEGIN = ("begin", 100, 100, 500, 500)
ITEM = ("item", 1, 0, 0, 0, 5, 5, 1, -1)


def letter(offset, text="a", node=1, backwards=0):
    return ("letter", node, 0, 0, 0, 10, 10, offset, backwards, text)


# The items 0 and 3 are no letters; the letters are 1, 2, 4, 5, 6.
PAGE = [BEGIN, ITEM, letter(0), letter(1), ITEM, letter(2, "bc"), letter(0, node=2), letter(1, node=2)]


def chosen(*choices):
    """What the last choose and a chosen behind it answer."""
    return ask(*PAGE, *[("choose", *choice) for choice in choices], ("chosen",))[-2:]


class Choose(unittest.TestCase):
    def test_nothing_at_first(self):
        self.assertEqual(ask(*PAGE, ("chosen",))[-1], [0, 0])
        self.assertEqual(ask(BEGIN, ("chosen",))[-1], [0, 0])

    def test_from_one_end_to_another(self):
        wanted = {
            (1, 0, 1, 1): [[1], [1, 1]],
            (1, 0, 1, 2): [[2], [2, 1]],
            (1, 1, 1, 2): [[1], [1, 2]],
            (1, 0, 1, 4): [[3], [3, 1]],
            (1, 1, 1, 4): [[2], [2, 2]],
            (1, 2, 1, 4): [[1], [1, 4]],
            (1, 2, 2, 2): [[3], [3, 4]],
            (1, 0, 2, 2): [[5], [5, 1]],
            (2, 1, 2, 2): [[1], [1, 6]],
        }
        for choice, answer in wanted.items():
            self.assertEqual(chosen(choice), answer, choice)
            turned = choice[2:] + choice[:2]
            self.assertEqual(chosen(turned), answer, turned)

    def test_the_end_of_one_node_is_where_the_next_begins(self):
        self.assertEqual(chosen((1, 4, 2, 0)), [[0], [0, 0]])
        self.assertEqual(chosen((1, 4, 2, 1)), [[1], [1, 5]])

    def test_the_same_end_twice_is_none(self):
        for node, offset in ((1, 0), (1, 1), (1, 4), (2, 2)):
            self.assertEqual(chosen((node, offset, node, offset)), [[0], [0, 0]])

    def test_a_choice_of_none_takes_the_place_of_the_former(self):
        self.assertEqual(chosen((1, 0, 1, 2), (1, 1, 1, 1)), [[0], [0, 0]])

    def test_an_end_stands_at_the_letter_that_caret_takes(self):
        # 1 is the second end of the letter 0 and the first end of the letter 2, which stands behind a third.
        page = [BEGIN, letter(0), letter(7), letter(1)]
        found = ask(*page, ("choose", 1, 0, 1, 1), ("chosen",), ("choose", 1, 1, 1, 2), ("chosen",))
        self.assertEqual(found[-4:], [[2], [2, 0], [1], [1, 2]])

    def test_the_first_of_several_letters(self):
        page = [BEGIN, letter(0), letter(0), letter(0)]
        found = ask(*page, ("choose", 1, 0, 1, 1), ("chosen",))
        self.assertEqual(found[-2:], [[1], [1, 0]])

    def test_letters_told_out_of_order_are_read_by_their_numbers(self):
        page = [BEGIN, letter(5), letter(3), letter(1)]
        found = ask(*page, ("choose", 1, 5, 1, 1), ("chosen",), ("choose", 1, 6, 1, 2), ("chosen",))
        self.assertEqual(found[-4:], [[2], [2, 0], [2], [2, 1]])

    def test_backwards_changes_nothing_of_the_order(self):
        page = [BEGIN, letter(0, backwards=1), letter(1, backwards=1)]
        found = ask(*page, ("choose", 1, 0, 1, 1), ("chosen",), ("choose", 1, 2, 1, 1), ("chosen",))
        self.assertEqual(found[-4:], [[1], [1, 0], [1], [1, 1]])

    def test_stays_when_more_is_told(self):
        found = ask(*PAGE, ("choose", 1, 1, 1, 4), letter(9), ITEM, ("chosen",))
        self.assertEqual(found[-1], [2, 2])

    def test_asking_changes_nothing(self):
        others = [("hit", 1, 1), ("near", 1, 1), ("caret", 1, 0), ("chosen",)]
        found = ask(*PAGE, ("choose", 1, 1, 1, 4), *others, ("chosen",))
        self.assertEqual(found[-1], [2, 2])


class Refused(unittest.TestCase):
    def test_one_of_both_is_no_end(self):
        for choice in (
            (1, 0, 1, 5),
            (1, 5, 1, 0),
            (1, 3, 1, 0),
            (1, 0, 3, 0),
            (3, 0, 1, 0),
            (1, -1, 1, 0),
            (1, 5, 1, 5),
            (LOWEST, 0, 1, 0),
            (HIGHEST, 0, 1, 0),
            (1, LOWEST, 1, 0),
            (1, HIGHEST, 1, 0),
            (1, 0, LOWEST, 0),
            (1, 0, HIGHEST, 0),
            (1, 0, 1, LOWEST),
            (1, 0, 1, HIGHEST),
        ):
            self.assertEqual(chosen(choice), [[-3], [0, 0]], choice)
            self.assertEqual(chosen((1, 1, 2, 1), choice), [[-3], [3, 2]], choice)

    def test_no_letters(self):
        self.assertEqual(ask(BEGIN, ITEM, ("choose", 1, 0, 1, 0), ("chosen",))[-2:], [[-3], [0, 0]])


if __name__ == "__main__":
    unittest.main()
