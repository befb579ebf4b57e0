"""Point 6: near."""

import unittest

from asking import FAR, HIGHEST, LOWEST, last
from hitpage.kept import Box, Page
from hitpage.pointing import near
from hitpage.telling import begin, tell_letter, tell_scroller

BEGIN = ("begin", 100, 100, 500, 500)


def letter(node, x, y, width=10, height=10, backwards=0, scroller=0):
    return ("letter", node, scroller, x, y, width, height, 5, backwards, "ab")


class OneLetter(unittest.TestCase):
    def test_the_end_on_the_point_s_side(self):
        ends = {-FAR: 5, 19: 5, 20: 5, 24: 5, 25: 7, 29: 7, 30: 7, FAR: 7}
        for x, end in ends.items():
            for y in (-FAR, 0, 22, FAR):
                self.assertEqual(last(BEGIN, letter(1, 20, 20), ("near", x, y)), [0, 0, 1, end], (x, y))

    def test_backwards_the_other_way_round(self):
        for x, end in {0: 7, 24: 7, 25: 5, 99: 5}.items():
            self.assertEqual(last(BEGIN, letter(1, 20, 20, backwards=1), ("near", x, 22)), [0, 0, 1, end], x)

    def test_without_width(self):
        for x, end in {19: 5, 20: 7, 21: 7}.items():
            self.assertEqual(last(BEGIN, letter(1, 20, 20, width=0), ("near", x, 22)), [0, 0, 1, end], x)


class Nearest(unittest.TestCase):
    def nearest(self, letters, x, y):
        return last(BEGIN, *letters, ("near", x, y))[1]

    def test_above_and_below_come_before_left_and_right(self):
        far_beside = letter(1, 500, 20)
        just_above = letter(1, 20, 9)
        self.assertEqual(self.nearest([just_above, far_beside], 25, 20), 1)
        self.assertEqual(self.nearest([just_above, far_beside], 25, 18), 0)

    def test_least_far_above_or_below(self):
        rows = [letter(1, 0, 0), letter(1, 0, 20), letter(1, 0, 50)]
        wanted = {-9: 0, 0: 0, 9: 0, 10: 0, 14: 0, 15: 1, 19: 1, 20: 1, 29: 1, 30: 1, 39: 1, 40: 2, 49: 2, 99: 2}
        for y, number in wanted.items():
            self.assertEqual(self.nearest(rows, 3, y), number, y)

    def test_least_far_to_the_left_or_right(self):
        row = [letter(1, 0, 0), letter(1, 20, 0), letter(1, 50, 0)]
        wanted = {-9: 0, 0: 0, 9: 0, 10: 0, 14: 0, 15: 1, 19: 1, 20: 1, 29: 1, 30: 1, 39: 1, 40: 2, 49: 2, 99: 2}
        for x, number in wanted.items():
            self.assertEqual(self.nearest(row, x, 3), number, x)

    def test_the_lower_and_right_side_are_1_beyond(self):
        # At 14 the upper one's side (10) is 4 and 1 off, the lower one (18) 4: the lower one is nearer.
        self.assertEqual(self.nearest([letter(1, 0, 0), letter(1, 0, 18)], 3, 14), 1)
        self.assertEqual(self.nearest([letter(1, 0, 0), letter(1, 18, 0)], 14, 3), 1)
        # Where they meet, the point is in the second.
        self.assertEqual(self.nearest([letter(1, 0, 0), letter(1, 0, 10)], 3, 10), 1)
        self.assertEqual(self.nearest([letter(1, 0, 0), letter(1, 10, 0)], 10, 3), 1)

    def test_the_same_distance_twice_is_the_first(self):
        # At 14 the side at 10 is 5 off, and so is the one at 19.
        for letters in ([letter(1, 0, 0), letter(2, 0, 19)], [letter(2, 0, 19), letter(1, 0, 0)]):
            self.assertEqual(self.nearest(letters, 3, 14), 0)
        for letters in ([letter(1, 0, 0), letter(2, 19, 0)], [letter(2, 19, 0), letter(1, 0, 0)]):
            self.assertEqual(self.nearest(letters, 14, 3), 0)

    def test_one_above_another_is_the_first_not_the_topmost(self):
        self.assertEqual(self.nearest([letter(1, 0, 0), letter(2, 0, 0)], 3, 3), 0)

    def test_between_the_sides_all_are_as_near(self):
        wide = letter(1, 0, 0, width=100)
        self.assertEqual(self.nearest([wide, letter(2, 40, 0)], 45, 3), 0)
        self.assertEqual(self.nearest([letter(2, 40, 0), wide], 45, 3), 0)
        self.assertEqual(self.nearest([letter(2, 40, 0), wide], 50, 3), 1)

    def test_without_height_there_is_no_between(self):
        flat = letter(1, 0, 20, height=0)
        self.assertEqual(self.nearest([flat, letter(2, 0, 21)], 3, 20), 0)
        self.assertEqual(self.nearest([flat, letter(2, 0, 20)], 3, 20), 1)

    def test_its_number_counts_all_items_and_other_items_are_none(self):
        item = ("item", 9, 0, 0, 0, 50, 50, 1, -1)
        self.assertEqual(last(BEGIN, item, letter(4, 80, 80), item, ("near", 3, 3)), [0, 1, 4, 5])


class NotShown(unittest.TestCase):
    def test_letters_that_are_not_shown_count(self):
        inner = ("scroller", 0, 10, 10, 10, 10, 500, 500)
        hidden = letter(3, 50, 50, scroller=1)
        self.assertEqual(last(BEGIN, inner, hidden, ("hit", 62, 62)), [-3])
        self.assertEqual(last(BEGIN, inner, letter(4, 80, 0), hidden, ("near", 62, 62)), [0, 1, 3, 5])

    def test_letters_beyond_the_view_count(self):
        self.assertEqual(last(BEGIN, letter(4, 300, 300), letter(4, -300, -300), ("near", 0, 0)), [0, 1, 4, 7])

    def test_boxes_lie_where_they_are_on_the_screen(self):
        page = Page()
        begin(page, 100, 100, 500, 500)
        tell_scroller(page, 0, Box(40, 40, 20, 20), 90, 90)
        tell_letter(page, 1, 0, Box(10, 0, 10, 10), 0, 0, [97])
        tell_letter(page, 2, 1, Box(10, 10, 10, 10), 0, 0, [97])
        self.assertEqual(near(page, 12, 29), [0, 0, 1, 0])
        self.assertEqual(near(page, 12, 30), [0, 1, 2, 0])
        page.scroller_list[1].scrolled_x = 45
        page.scroller_list[1].scrolled_y = 50
        self.assertEqual(near(page, 15, 1), [0, 0, 1, 1])
        self.assertEqual(near(page, 7, 1), [0, 1, 2, 0])
        page.scroller_list[0].scrolled_x = 20
        self.assertEqual(near(page, 3, 1), [0, 0, 1, 1])
        self.assertEqual(near(page, -10, 5), [0, 0, 1, 0])
        self.assertEqual(near(page, -11, 5), [0, 1, 2, 0])


class Refused(unittest.TestCase):
    def test_no_letters(self):
        self.assertEqual(last(BEGIN, ("near", 0, 0)), [-3])
        self.assertEqual(last(BEGIN, ("item", 9, 0, 0, 0, 50, 50, 1, -1), ("near", 0, 0)), [-3])

    def test_points_are_places(self):
        for number, answer in ((FAR, -3), (-FAR, -3), (FAR + 1, -8), (-FAR - 1, -8), (LOWEST, -8), (HIGHEST, -8)):
            self.assertEqual(last(BEGIN, ("near", number, 0)), [answer], number)
            self.assertEqual(last(BEGIN, ("near", 0, number)), [answer], number)


if __name__ == "__main__":
    unittest.main()
