"""Points 17 and 18: turn, focus."""

import unittest

from asking import HIGHEST, LOWEST, ask, last

BEGIN = ("begin", 100, 100, 500, 500)
ON = ("turn", 0)
BACK = ("turn", 1)


def item(turn, node=0, width=5, height=5, can_hit=1, scroller=0, x=0):
    return ("item", node, scroller, x, 0, width, height, can_hit, turn)


def told(*turns):
    """Items with these turns, the node of each being 100 and its number."""
    return [item(turn, 100 + number) for number, turn in enumerate(turns)]


def look(turns, *calls):
    """What the calls behind the items answer."""
    return ask(BEGIN, *told(*turns), *calls)[1 + len(turns):]


def numbers(turns, *calls):
    """Of what the calls behind the items answer, the items."""
    return [answer[1] for answer in look(turns, *calls) if len(answer) == 3]


class Order(unittest.TestCase):
    def test_its_number_and_its_node(self):
        self.assertEqual(look((-1, 0), ON), [[0, 1, 101]])
        for node in (LOWEST, -1, HIGHEST):
            self.assertEqual(last(BEGIN, item(3, node), ON), [0, 0, node])

    def test_turns_above_0_first_then_0(self):
        self.assertEqual(numbers((0, 1), *[ON] * 2), [1, 0])
        self.assertEqual(numbers((0, 1000), *[ON] * 2), [1, 0])
        self.assertEqual(numbers((0, 2, 0, 1, 0), *[ON] * 5), [3, 1, 0, 2, 4])

    def test_by_turns(self):
        self.assertEqual(numbers((1000, 5, 999, 1, 10), *[ON] * 5), [3, 1, 4, 2, 0])

    def test_of_one_turn_by_numbers(self):
        self.assertEqual(numbers((7, 3, 7, 3, 7, 3), *[ON] * 6), [1, 3, 5, 0, 2, 4])
        self.assertEqual(numbers((0, 0, 0), *[ON] * 3), [0, 1, 2])

    def test_back(self):
        self.assertEqual(numbers((7, 3, 0, 7, 3, 0), *[BACK] * 6), [5, 2, 3, 0, 4, 1])

    def test_those_without_a_turn_are_left_out(self):
        self.assertEqual(numbers((-1, 4, -1, 0, -1), *[ON] * 3), [1, 3, 1])
        self.assertEqual(numbers((-1, 4, -1, 0, -1), *[BACK] * 3), [3, 1, 3])

    def test_those_without_width_or_height_are_left_out(self):
        items = [item(2, width=0), item(2, height=0), item(2), item(0, width=0, height=0), item(0, width=1, height=1)]
        found = ask(BEGIN, *items, ON, ON, ON, BACK)
        self.assertEqual([answer[1] for answer in found[-4:]], [2, 4, 2, 4])

    def test_letters_are_left_out(self):
        letter = ("letter", 1, 0, 0, 0, 5, 5, 0, 0, "a")
        found = ask(BEGIN, letter, item(0, 7), letter, ON, ON)
        self.assertEqual(found[-2:], [[0, 1, 7], [0, 1, 7]])

    def test_those_that_are_not_open_or_not_shown_count(self):
        inner = ("scroller", 0, 0, 0, 0, 0, 5, 5)
        items = [item(0, can_hit=0), item(0, x=400), item(0, scroller=1)]
        found = ask(BEGIN, inner, *items, ON, ON, ON)
        self.assertEqual([answer[1] for answer in found[-3:]], [0, 1, 2])


class Round(unittest.TestCase):
    def test_behind_the_last_one_the_first(self):
        self.assertEqual(numbers((0, 0, 5), *[ON] * 7), [2, 0, 1, 2, 0, 1, 2])

    def test_before_the_first_one_the_last(self):
        self.assertEqual(numbers((0, 0, 5), *[BACK] * 7), [1, 0, 2, 1, 0, 2, 1])

    def test_on_and_back(self):
        self.assertEqual(numbers((0, 0, 5), ON, ON, BACK, BACK, BACK, ON), [2, 0, 2, 1, 0, 1])

    def test_of_one_alone(self):
        self.assertEqual(numbers((0,), ON, ON, BACK, BACK), [0, 0, 0, 0])

    def test_without_a_focus(self):
        self.assertEqual(numbers((0, 4, 0), ON), [1])
        self.assertEqual(numbers((0, 4, 0), BACK), [2])

    def test_items_that_are_told_later_count(self):
        found = ask(BEGIN, *told(2, 0), ON, item(1), item(2), ON, ON, ON, ON)
        self.assertEqual([answer[1] for answer in found[-4:]], [3, 1, 2, 0])

    def test_nothing_is_scrolled_or_chosen(self):
        far = ("item", 1, 0, 400, 400, 5, 5, 1, 0)
        letter = ("letter", 1, 0, 0, 0, 5, 5, 0, 0, "a")
        found = ask(BEGIN, far, letter, ("choose", 1, 0, 1, 1), ON, ("focus", 0), ("scrolled", 0), ("chosen",))
        self.assertEqual(found[-4:], [[0, 0, 1], [0], [0, 0, 0], [1, 1]])


class TurnRefused(unittest.TestCase):
    def test_there_is_none(self):
        for back in (0, 1):
            self.assertEqual(last(BEGIN, ("turn", back)), [-3])
            self.assertEqual(look((-1, -1), ("turn", back)), [[-3]])
            self.assertEqual(last(BEGIN, item(0, width=0), item(5, height=0), ("turn", back)), [-3])
            self.assertEqual(last(BEGIN, ("letter", 1, 0, 0, 0, 5, 5, 0, 0, "a"), ("turn", back)), [-3])

    def test_back_beyond_0_and_1(self):
        for back in (-1, 2, LOWEST, HIGHEST):
            self.assertEqual(look((0, 0, 0), ON, ("turn", back), ON), [[0, 0, 100], [-8], [0, 1, 101]], back)
            self.assertEqual(last(BEGIN, ("turn", back)), [-8], back)


class Focus(unittest.TestCase):
    def test_turn_goes_on_from_it(self):
        # Their order is 1, 3, 0, 2.
        turns = (0, 1, 0, 2)
        for number, on, back in ((1, 3, 2), (3, 0, 1), (0, 2, 3), (2, 1, 0)):
            self.assertEqual(look(turns, ("focus", number), ON), [[0], [0, on, 100 + on]])
            self.assertEqual(look(turns, ("focus", number), BACK), [[0], [0, back, 100 + back]])
            self.assertEqual(look(turns, ON, ON, ("focus", number), ON)[-2:], [[0], [0, on, 100 + on]])

    def test_none(self):
        self.assertEqual(look((0, 1, 0), ON, ON, ("focus", -1), ON), [[0, 1, 101], [0, 0, 100], [0], [0, 1, 101]])
        self.assertEqual(look((0, 1, 0), ON, ON, ("focus", -1), BACK)[-2:], [[0], [0, 2, 102]])
        self.assertEqual(last(BEGIN, ("focus", -1)), [0])

    def test_no_such_item(self):
        for number in (-2, 3, LOWEST, HIGHEST):
            self.assertEqual(look((0, 0, 0), ("focus", 1), ("focus", number), ON), [[0], [-8], [0, 2, 102]], number)
        self.assertEqual(last(BEGIN, ("focus", 0)), [-8])

    def test_one_that_is_not_one_of_these(self):
        letter = ("letter", 1, 0, 0, 0, 5, 5, 0, 0, "a")
        for other in (item(-1), item(0, width=0), item(0, height=0), item(9, width=0, height=0), letter):
            found = ask(BEGIN, item(0, 50), item(0, 51), other, ("focus", 0), ("focus", 2), ON)
            self.assertEqual(found[-3:], [[0], [-3], [0, 1, 51]], other)
            found = ask(BEGIN, item(0, 50), item(0, 51), other, ("focus", 2), ON)
            self.assertEqual(found[-2:], [[-3], [0, 0, 50]], other)

    def test_one_that_is_not_open_or_not_shown(self):
        found = ask(BEGIN, item(0), item(0, can_hit=0, x=400), item(0), ("focus", 1), ON)
        self.assertEqual(found[-2:], [[0], [0, 2, 0]])


if __name__ == "__main__":
    unittest.main()
