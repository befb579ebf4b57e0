"""Point 5: hit."""

import unittest

from asking import FAR, HIGHEST, LOWEST, ask, last
from hitpage.kept import Box, Page
from hitpage.pointing import hit
from hitpage.telling import begin, tell_item, tell_scroller

BEGIN = ("begin", 100, 100, 500, 500)


class Boxes(unittest.TestCase):
    def test_left_and_upper_side_with_it_right_and_lower_without(self):
        item = ("item", 7, 0, 10, 20, 30, 40, 1, -1)
        points = {
            (10, 20): [0, 0, 7, 0, 0],
            (39, 59): [0, 0, 7, 29, 39],
            (25, 21): [0, 0, 7, 15, 1],
            (9, 20): [-3],
            (10, 19): [-3],
            (40, 59): [-3],
            (39, 60): [-3],
        }
        for point, answer in points.items():
            self.assertEqual(last(BEGIN, item, ("hit", *point)), answer, point)

    def test_a_box_without_size_is_never_hit(self):
        for width, height in ((0, 5), (5, 0), (0, 0)):
            item = ("item", 7, 0, 10, 20, width, height, 1, -1)
            letter = ("letter", 7, 0, 10, 20, width, height, 0, 0, "a")
            self.assertEqual(last(BEGIN, item, letter, ("hit", 10, 20)), [-3])

    def test_nothing_there(self):
        self.assertEqual(last(BEGIN, ("hit", 0, 0)), [-3])

    def test_any_node_is_answered(self):
        for node in (LOWEST, -1, 0, HIGHEST):
            self.assertEqual(last(BEGIN, ("item", node, 0, 0, 0, 5, 5, 1, -1), ("hit", 1, 2)), [0, 0, node, 1, 2])

    def test_a_turn_changes_nothing_here(self):
        for turn in (-1, 0, 1000):
            self.assertEqual(last(BEGIN, ("item", 4, 0, 0, 0, 5, 5, 1, turn), ("hit", 1, 2)), [0, 0, 4, 1, 2])

    def test_far_boxes(self):
        # Its right and lower sides are at 0, and not with it.
        before = ("item", 7, 0, -FAR, -FAR, FAR, FAR, 1, -1)
        self.assertEqual(last(BEGIN, before, ("hit", 0, 0)), [-3])
        big = ("begin", FAR, FAR, FAR, FAR)
        whole = ("item", 7, 0, 0, 0, FAR, FAR, 1, -1)
        self.assertEqual(last(big, whole, ("hit", FAR - 1, FAR - 1)), [0, 0, 7, FAR - 1, FAR - 1])
        self.assertEqual(last(big, whole, ("hit", FAR, FAR - 1)), [-3])


class Points(unittest.TestCase):
    def test_are_places(self):
        for number, answer in ((FAR, -3), (-FAR, -3), (FAR + 1, -8), (-FAR - 1, -8), (LOWEST, -8), (HIGHEST, -8)):
            self.assertEqual(last(BEGIN, ("hit", number, 0)), [answer], number)
            self.assertEqual(last(BEGIN, ("hit", 0, number)), [answer], number)


class Topmost(unittest.TestCase):
    def test_the_later_lies_above(self):
        low = ("item", 1, 0, 0, 0, 50, 50, 1, -1)
        high = ("item", 2, 0, 10, 10, 50, 50, 1, -1)
        self.assertEqual(last(BEGIN, low, high, ("hit", 20, 21)), [0, 1, 2, 10, 11])
        self.assertEqual(last(BEGIN, high, low, ("hit", 20, 21)), [0, 1, 1, 20, 21])
        self.assertEqual(last(BEGIN, low, high, ("hit", 5, 6)), [0, 0, 1, 5, 6])

    def test_one_that_is_not_open_lets_through(self):
        low = ("item", 1, 0, 0, 0, 50, 50, 1, -1)
        closed = ("item", 2, 0, 0, 0, 50, 50, 0, 5)
        self.assertEqual(last(BEGIN, low, closed, ("hit", 20, 21)), [0, 0, 1, 20, 21])
        self.assertEqual(last(BEGIN, closed, ("hit", 20, 21)), [-3])

    def test_letters_and_items_lie_in_one_order(self):
        item = ("item", 1, 0, 0, 0, 50, 50, 1, -1)
        letter = ("letter", 2, 0, 0, 0, 50, 50, 9, 0, "a")
        self.assertEqual(last(BEGIN, item, letter, ("hit", 3, 4)), [0, 1, 2, 3, 4, 9])
        self.assertEqual(last(BEGIN, letter, item, ("hit", 3, 4)), [0, 1, 1, 3, 4])

    def test_a_scroller_s_number_does_not_lift_its_items(self):
        inner = ("scroller", 0, 0, 0, 50, 50, 50, 50)
        in_it = ("item", 1, 1, 0, 0, 50, 50, 1, -1)
        outside = ("item", 2, 0, 0, 0, 50, 50, 1, -1)
        self.assertEqual(last(BEGIN, inner, in_it, outside, ("hit", 3, 4)), [0, 1, 2, 3, 4])
        self.assertEqual(last(BEGIN, inner, outside, in_it, ("hit", 3, 4)), [0, 1, 1, 3, 4])


class Letters(unittest.TestCase):
    def ends(self, width, backwards, points):
        letter = ("letter", 2, 0, 10, 0, width, 5, 40, backwards, "abc")
        return [last(BEGIN, letter, ("hit", 10 + right, 1))[5] for right in points]

    def test_forwards(self):
        self.assertEqual(self.ends(6, 0, (0, 2, 3, 5)), [40, 40, 43, 43])
        self.assertEqual(self.ends(7, 0, (0, 3, 4, 6)), [40, 40, 43, 43])

    def test_backwards(self):
        self.assertEqual(self.ends(6, 1, (0, 2, 3, 5)), [43, 43, 40, 40])
        self.assertEqual(self.ends(7, 1, (0, 3, 4, 6)), [43, 43, 40, 40])

    def test_of_a_width_of_1(self):
        self.assertEqual(self.ends(1, 0, (0,)), [40])
        self.assertEqual(self.ends(1, 1, (0,)), [43])

    def test_the_end_counts_code_points(self):
        letter = ("letter", 2, 0, 0, 0, 2, 5, 7, 0, [1114111] * 8)
        self.assertEqual(last(BEGIN, letter, ("hit", 1, 0)), [0, 0, 2, 1, 0, 15])


class Shown(unittest.TestCase):
    def test_what_lies_beyond_the_view_is_not_hit(self):
        item = ("item", 7, 0, -10, -10, 300, 300, 1, -1)
        points = {(0, 0): [0, 0, 7, 10, 10], (99, 99): [0, 0, 7, 109, 109]}
        for point in ((-1, 0), (0, -1), (100, 99), (99, 100)):
            points[point] = [-3]
        for point, answer in points.items():
            self.assertEqual(last(BEGIN, item, ("hit", *point)), answer, point)

    def test_a_scroller_s_items_lie_from_its_box_on_and_are_shown_there(self):
        inner = ("scroller", 0, 20, 30, 10, 10, 50, 50)
        item = ("item", 7, 1, -5, -5, 40, 40, 1, -1)
        points = {
            (20, 30): [0, 0, 7, 5, 5],
            (29, 39): [0, 0, 7, 14, 14],
            (19, 30): [-3],
            (20, 29): [-3],
            (30, 39): [-3],
            (29, 40): [-3],
        }
        for point, answer in points.items():
            self.assertEqual(last(BEGIN, inner, item, ("hit", *point)), answer, point)

    def test_a_scroller_in_a_scroller_shows_only_what_the_outer_one_shows(self):
        outer = ("scroller", 0, 20, 25, 30, 35, 100, 100)
        inner = ("scroller", 1, 20, -10, 30, 30, 100, 100)
        item = ("item", 7, 2, 0, 0, 100, 100, 1, -1)
        points = {
            (40, 25): [0, 0, 7, 0, 10],
            (49, 44): [0, 0, 7, 9, 29],
            (50, 44): [-3],
            (39, 25): [-3],
            (40, 24): [-3],
            (40, 45): [-3],
        }
        for point, answer in points.items():
            self.assertEqual(last(BEGIN, outer, inner, item, ("hit", *point)), answer, point)

    def test_an_outer_one_cuts_at_each_of_its_sides(self):
        outer = ("scroller", 0, 20, 35, 30, 10, 100, 100)
        inner = ("scroller", 1, -50, -50, 200, 200, 100, 100)
        item = ("item", 7, 2, 0, 0, 200, 200, 1, -1)
        points = {
            (20, 35): [0, 0, 7, 50, 50],
            (49, 44): [0, 0, 7, 79, 59],
            (19, 35): [-3],
            (20, 34): [-3],
            (50, 44): [-3],
            (49, 45): [-3],
        }
        for point, answer in points.items():
            self.assertEqual(last(BEGIN, outer, inner, item, ("hit", *point)), answer, point)

    def test_what_an_inner_one_hides_lets_through(self):
        below = ("item", 1, 0, 0, 0, 100, 100, 1, -1)
        inner = ("scroller", 0, 20, 20, 10, 10, 50, 50)
        above = ("item", 2, 1, 0, 0, 50, 50, 1, -1)
        self.assertEqual(last(BEGIN, below, inner, above, ("hit", 29, 29)), [0, 1, 2, 9, 9])
        self.assertEqual(last(BEGIN, below, inner, above, ("hit", 30, 30)), [0, 0, 1, 30, 30])

    def test_a_scroller_that_lies_wholly_beyond_its_outer_one_shows_nothing(self):
        outer = ("scroller", 0, 10, 10, 10, 10, 10, 10)
        item = ("item", 7, 2, -100, -100, 200, 200, 1, -1)
        for x, y in ((40, 0), (-40, 0), (0, 40), (0, -40), (40, 40), (10, 0), (0, 10)):
            points = [("hit", across, down) for across in (9, 10, 19, 20, 50) for down in (9, 10, 19, 20, 50)]
            found = ask(BEGIN, outer, ("scroller", 1, x, y, 10, 10, 10, 10), item, *points)
            self.assertEqual(found[4:], [[-3]] * 25, (x, y))

    def test_a_scroller_without_size_shows_nothing(self):
        inner = ("scroller", 0, 10, 10, 0, 10, 10, 10)
        item = ("item", 7, 1, -5, -5, 20, 20, 1, -1)
        self.assertEqual(last(BEGIN, inner, item, ("hit", 10, 10)), [-3])

    def test_an_item_beyond_the_content_is_hit_where_the_box_shows_it(self):
        inner = ("scroller", 0, 10, 10, 20, 20, 1, 1)
        item = ("item", 7, 1, 5, 5, 5, 5, 1, -1)
        self.assertEqual(last(BEGIN, inner, item, ("hit", 16, 17)), [0, 0, 7, 1, 2])

    def test_64_in_one_another(self):
        told = [("scroller", outer, 1, 1, 100, 100, 200, 200) for outer in range(63)]
        item = ("item", 7, 63, 0, 0, 100, 100, 1, -1)
        found = ask(BEGIN, *told, item, ("hit", 63, 63), ("hit", 62, 63), ("hit", 99, 64), ("hit", 100, 64))
        self.assertEqual(found[-4:], [[0, 0, 7, 0, 0], [-3], [0, 0, 7, 36, 1], [-3]])

    def test_sums_are_exact_beyond_the_places(self):
        told = [("scroller", outer, FAR, -FAR, FAR, FAR, 1, 1) for outer in range(60)]
        letter = ("letter", 7, 60, FAR, FAR, 1, 3, 0, 0, "a")
        self.assertEqual(last(BEGIN, *told, letter, ("caret", 7, 1)), [0, 61 * FAR + 1, -59 * FAR, 3])


class Scrolled(unittest.TestCase):
    """How far things are scrolled is set here by hand."""

    def page(self):
        page = Page()
        begin(page, 100, 100, 500, 500)
        tell_scroller(page, 0, Box(40, 50, 20, 20), 90, 90)
        tell_scroller(page, 1, Box(10, 10, 20, 20), 90, 90)
        tell_item(page, 1, 0, Box(30, 30, 5, 5), 1, -1)
        tell_item(page, 2, 1, Box(5, 6, 4, 4), 1, -1)
        tell_item(page, 3, 2, Box(3, 4, 6, 6), 1, -1)
        return page

    def test_nothing_scrolled(self):
        page = self.page()
        self.assertEqual(hit(page, 30, 31), [0, 0, 1, 0, 1])
        self.assertEqual(hit(page, 46, 58), [0, 1, 2, 1, 2])
        self.assertEqual(hit(page, 54, 65), [0, 2, 3, 1, 1])

    def test_the_view_scrolled_moves_all(self):
        page = self.page()
        page.scroller_list[0].scrolled_x = 10
        page.scroller_list[0].scrolled_y = 20
        self.assertEqual(hit(page, 20, 11), [0, 0, 1, 0, 1])
        self.assertEqual(hit(page, 36, 38), [0, 1, 2, 1, 2])
        self.assertEqual(hit(page, 44, 45), [0, 2, 3, 1, 1])

    def test_the_view_scrolled_still_shows_from_0_on(self):
        page = self.page()
        page.scroller_list[0].scrolled_x = 33
        self.assertEqual(hit(page, 0, 31), [0, 0, 1, 3, 1])
        self.assertEqual(hit(page, -1, 31), [-3])

    def test_a_scroller_scrolled_moves_its_content_not_its_box(self):
        page = self.page()
        page.scroller_list[1].scrolled_x = 3
        page.scroller_list[1].scrolled_y = 8
        self.assertEqual(hit(page, 30, 31), [0, 0, 1, 0, 1])
        self.assertEqual(hit(page, 43, 50), [0, 1, 2, 1, 2])
        self.assertEqual(hit(page, 43, 49), [-3])
        self.assertEqual(hit(page, 51, 57), [0, 2, 3, 1, 1])


if __name__ == "__main__":
    unittest.main()
