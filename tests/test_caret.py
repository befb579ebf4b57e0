"""Point 7: caret."""

import unittest

from asking import FAR, HIGHEST, LOWEST, ask, last
from hitpage.choosing import caret
from hitpage.kept import Box, Page
from hitpage.telling import begin, tell_letter, tell_scroller

BEGIN = ("begin", 100, 100, 500, 500)


def letter(x, offset, text="a", node=1, backwards=0, scroller=0):
    return ("letter", node, scroller, x, x + 1, 10, 12, offset, backwards, text)


class Caret(unittest.TestCase):
    def test_both_ends(self):
        found = ask(BEGIN, letter(20, 4, "abc"), *[("caret", 1, offset) for offset in range(3, 9)])
        self.assertEqual(found[2:], [[-3], [0, 20, 21, 12], [-3], [-3], [0, 30, 21, 12], [-3]])

    def test_backwards(self):
        found = ask(BEGIN, letter(20, 4, "abc", backwards=1), ("caret", 1, 4), ("caret", 1, 7))
        self.assertEqual(found[2:], [[0, 30, 21, 12], [0, 20, 21, 12]])

    def test_a_first_end_comes_before_a_second_one(self):
        self.assertEqual(last(BEGIN, letter(20, 0), letter(50, 1), ("caret", 1, 1)), [0, 50, 51, 12])
        self.assertEqual(last(BEGIN, letter(50, 1), letter(20, 0), ("caret", 1, 1)), [0, 50, 51, 12])

    def test_a_first_end_comes_first_however_far_behind(self):
        before = [letter(20, 0), letter(25, 0), letter(30, 0)]
        self.assertEqual(last(BEGIN, *before, letter(50, 1, backwards=1), ("caret", 1, 1)), [0, 60, 51, 12])

    def test_the_first_of_several(self):
        self.assertEqual(last(BEGIN, letter(20, 3), letter(50, 3), ("caret", 1, 3)), [0, 20, 21, 12])
        self.assertEqual(last(BEGIN, letter(20, 3), letter(50, 3), ("caret", 1, 4)), [0, 30, 21, 12])
        self.assertEqual(last(BEGIN, letter(50, 2, "ab"), letter(20, 3), ("caret", 1, 4)), [0, 60, 51, 12])

    def test_only_letters_of_that_node(self):
        letters = (letter(20, 3, node=5), letter(50, 3, node=6))
        self.assertEqual(last(BEGIN, *letters, ("caret", 6, 3)), [0, 50, 51, 12])
        self.assertEqual(last(BEGIN, *letters, ("caret", 7, 3)), [-3])
        # A first end of another node doesn't count before a second one of this.
        self.assertEqual(last(BEGIN, letter(20, 3, node=5), letter(50, 4, node=6), ("caret", 5, 4)), [0, 30, 21, 12])

    def test_items_have_no_ends(self):
        item = ("item", 1, 0, 0, 0, 5, 5, 1, -1)
        self.assertEqual(last(BEGIN, item, ("caret", 1, 0)), [-3])
        self.assertEqual(last(BEGIN, item, letter(20, 0), item, ("caret", 1, 0)), [0, 20, 21, 12])

    def test_any_numbers_may_be_asked(self):
        for number in (LOWEST, -FAR - 1, -1, FAR + 9, HIGHEST):
            self.assertEqual(last(BEGIN, letter(20, 0), ("caret", number, 0)), [-3], number)
            self.assertEqual(last(BEGIN, letter(20, 0), ("caret", 1, number)), [-3], number)
        for node in (LOWEST, -1, HIGHEST):
            self.assertEqual(last(BEGIN, letter(20, 0, node=node), ("caret", node, 0)), [0, 20, 21, 12], node)

    def test_no_letters(self):
        self.assertEqual(last(BEGIN, ("caret", 0, 0)), [-3])

    def test_on_the_screen_shown_or_not(self):
        inner = ("scroller", 0, 30, 40, 5, 5, 90, 90)
        self.assertEqual(last(BEGIN, inner, letter(50, 0, scroller=1), ("caret", 1, 0)), [0, 80, 91, 12])

    def test_scrolled(self):
        page = Page()
        begin(page, 100, 100, 500, 500)
        tell_scroller(page, 0, Box(30, 40, 5, 5), 90, 90)
        tell_letter(page, 1, 1, Box(50, 51, 10, 12), 0, 0, [97])
        page.scroller_list[0].scrolled_x = 100
        page.scroller_list[0].scrolled_y = 200
        page.scroller_list[1].scrolled_x = 3
        page.scroller_list[1].scrolled_y = 4
        self.assertEqual(caret(page, 1, 0), [0, -23, -113, 12])
        self.assertEqual(caret(page, 1, 1), [0, -13, -113, 12])


if __name__ == "__main__":
    unittest.main()
