"""Points 12 and 13: scroll, scrolled."""

import unittest

from asking import FAR, HIGHEST, LOWEST, ask, last

# The view can go 30 and 40, the scroller 1 in it 10 and 20, the scroller 2 in that 5 and 6.
NESTED = [
    ("begin", 100, 100, 130, 140),
    ("scroller", 0, 10, 10, 50, 50, 60, 70),
    ("scroller", 1, 10, 10, 20, 20, 25, 26),
]
ALL_SCROLLED = [("scrolled", 0), ("scrolled", 1), ("scrolled", 2)]


def went(*scrolls):
    """What the last scroll answers, and then how far the three are scrolled."""
    found = ask(*NESTED, *[("scroll", *numbers) for numbers in scrolls], *ALL_SCROLLED)
    return found[-4], [tuple(answer[1:]) for answer in found[-3:]]


class AsFarAsItCan(unittest.TestCase):
    def test_nothing_is_scrolled_at_first(self):
        self.assertEqual(ask(*NESTED, *ALL_SCROLLED)[-3:], [[0, 0, 0]] * 3)

    def test_so_far(self):
        self.assertEqual(went((0, 3, 4)), ([0, 3, 4], [(3, 4), (0, 0), (0, 0)]))
        self.assertEqual(went((0, 3, 4), (0, 5, 6)), ([0, 5, 6], [(8, 10), (0, 0), (0, 0)]))
        self.assertEqual(went((1, 3, 4)), ([0, 3, 4], [(0, 0), (3, 4), (0, 0)]))
        self.assertEqual(went((2, 3, 4)), ([0, 3, 4], [(0, 0), (0, 0), (3, 4)]))

    def test_back(self):
        self.assertEqual(went((0, 20, 20), (0, -3, -4)), ([0, -3, -4], [(17, 16), (0, 0), (0, 0)]))
        self.assertEqual(went((0, 20, 20), (0, 3, -4)), ([0, 3, -4], [(23, 16), (0, 0), (0, 0)]))

    def test_to_the_end_and_not_beyond(self):
        self.assertEqual(went((0, 30, 40)), ([0, 30, 40], [(30, 40), (0, 0), (0, 0)]))
        self.assertEqual(went((0, 31, 41)), ([0, 30, 40], [(30, 40), (0, 0), (0, 0)]))
        self.assertEqual(went((0, 30, 40), (0, 1, 1)), ([0, 0, 0], [(30, 40), (0, 0), (0, 0)]))
        self.assertEqual(went((0, FAR, FAR)), ([0, 30, 40], [(30, 40), (0, 0), (0, 0)]))

    def test_to_the_beginning_and_not_before(self):
        self.assertEqual(went((0, -1, -1)), ([0, 0, 0], [(0, 0), (0, 0), (0, 0)]))
        self.assertEqual(went((0, 7, 8), (0, -7, -8)), ([0, -7, -8], [(0, 0), (0, 0), (0, 0)]))
        self.assertEqual(went((0, 7, 8), (0, -8, -9)), ([0, -7, -8], [(0, 0), (0, 0), (0, 0)]))
        self.assertEqual(went((0, 30, 40), (0, -FAR, -FAR)), ([0, -30, -40], [(0, 0), (0, 0), (0, 0)]))

    def test_by_0(self):
        self.assertEqual(went((0, 7, 8), (0, 0, 0)), ([0, 0, 0], [(7, 8), (0, 0), (0, 0)]))

    def test_a_content_that_is_not_wider_or_higher(self):
        for width, height in ((100, 100), (99, 50), (0, 0)):
            found = ask(("begin", 100, 100, width, height), ("scroll", 0, 5, 5), ("scrolled", 0))
            self.assertEqual(found[1:], [[0, 0, 0], [0, 0, 0]])
            found = ask(("begin", 100, 100, width, height), ("scroll", 0, -5, -5), ("scrolled", 0))
            self.assertEqual(found[1:], [[0, 0, 0], [0, 0, 0]])
        wide = ask(("begin", 100, 100, 103, 50), ("scroll", 0, 5, 5), ("scrolled", 0))
        self.assertEqual(wide[1:], [[0, 3, 0], [0, 3, 0]])
        high = ask(("begin", 100, 100, 50, 103), ("scroll", 0, 5, 5), ("scrolled", 0))
        self.assertEqual(high[1:], [[0, 0, 3], [0, 0, 3]])

    def test_a_box_without_size(self):
        found = ask(("begin", 0, 0, 7, 8), ("scroll", 0, 9, 9), ("scrolled", 0))
        self.assertEqual(found[1:], [[0, 7, 8], [0, 7, 8]])

    def test_where_the_box_lies_changes_nothing(self):
        for x, y in ((0, 0), (-FAR, FAR), (300, 300)):
            calls = [("begin", 10, 10, 10, 10), ("scroller", 0, x, y, 4, 5, 7, 9), ("scroll", 1, 9, 9), ("scrolled", 1)]
            self.assertEqual(ask(*calls)[2:], [[0, 3, 4], [0, 3, 4]])

    def test_items_beyond_the_content_change_nothing(self):
        calls = [("begin", 10, 10, 12, 13), ("item", 1, 0, 500, 500, 9, 9, 1, -1), ("scroll", 0, 50, 50)]
        self.assertEqual(last(*calls), [0, 2, 3])


class WhatIsLeft(unittest.TestCase):
    def test_goes_to_the_outer_one(self):
        self.assertEqual(went((1, 12, 23)), ([0, 12, 23], [(2, 3), (10, 20), (0, 0)]))

    def test_and_so_on_to_the_view(self):
        self.assertEqual(went((2, 15, 26)), ([0, 15, 26], [(0, 0), (10, 20), (5, 6)]))
        self.assertEqual(went((2, 16, 28)), ([0, 16, 28], [(1, 2), (10, 20), (5, 6)]))
        self.assertEqual(went((2, 45, 66)), ([0, 45, 66], [(30, 40), (10, 20), (5, 6)]))

    def test_beyond_all_it_is_lost(self):
        self.assertEqual(went((2, 46, 67)), ([0, 45, 66], [(30, 40), (10, 20), (5, 6)]))
        self.assertEqual(went((2, FAR, FAR)), ([0, 45, 66], [(30, 40), (10, 20), (5, 6)]))

    def test_back(self):
        end = (2, 45, 66)
        self.assertEqual(went(end, (2, -4, -5)), ([0, -4, -5], [(30, 40), (10, 20), (1, 1)]))
        self.assertEqual(went(end, (2, -6, -8)), ([0, -6, -8], [(30, 40), (9, 18), (0, 0)]))
        self.assertEqual(went(end, (2, -20, -30)), ([0, -20, -30], [(25, 36), (0, 0), (0, 0)]))
        self.assertEqual(went(end, (2, -FAR, -FAR)), ([0, -45, -66], [(0, 0), (0, 0), (0, 0)]))

    def test_x_and_y_each_by_itself(self):
        self.assertEqual(went((2, 7, 3)), ([0, 7, 3], [(0, 0), (2, 0), (5, 3)]))
        self.assertEqual(went((2, 3, 7)), ([0, 3, 7], [(0, 0), (0, 1), (3, 6)]))
        self.assertEqual(went((2, 20, -9)), ([0, 20, 0], [(5, 0), (10, 0), (5, 0)]))
        self.assertEqual(went((2, 45, 66), (2, -16, 5)), ([0, -16, 0], [(29, 40), (0, 20), (0, 6)]))

    def test_inner_ones_stay(self):
        self.assertEqual(went((2, 3, 3), (1, 99, 99)), ([0, 40, 60], [(30, 40), (10, 20), (3, 3)]))

    def test_one_that_cannot_go_hands_all_on(self):
        calls = [("begin", 10, 10, 30, 30), ("scroller", 0, 0, 0, 5, 5, 2, 2), ("scroll", 1, 7, 8)]
        found = ask(*calls, ("scrolled", 1), ("scrolled", 0))
        self.assertEqual(found[-3:], [[0, 7, 8], [0, 0, 0], [0, 7, 8]])

    def test_not_to_those_beside(self):
        beside = ("scroller", 0, 0, 0, 5, 5, 50, 50)
        found = ask(*NESTED, beside, ("scroll", 2, 99, 99), ("scrolled", 3))
        self.assertEqual(found[-2:], [[0, 45, 66], [0, 0, 0]])
        found = ask(*NESTED, beside, ("scroll", 3, 46, 99), *ALL_SCROLLED)
        self.assertEqual(found[-4:], [[0, 46, 85], [0, 1, 40], [0, 0, 0], [0, 0, 0]])

    def test_64_in_one_another(self):
        told = [("scroller", outer, 0, 0, 1, 1, 2, 3) for outer in range(63)]
        found = ask(("begin", 1, 1, 2, 3), *told, ("scroll", 63, 63, 200), ("scrolled", 0), ("scrolled", 1))
        self.assertEqual(found[-3:], [[0, 63, 128], [0, 0, 2], [0, 1, 2]])

    def test_sums_are_exact(self):
        told = [("begin", 0, 0, FAR, FAR), ("scroller", 0, 0, 0, 0, 0, FAR, FAR)]
        scrolls = [("scroll", 1, FAR, 1), ("scroll", 1, FAR, FAR), ("scroll", 0, -1, FAR)]
        found = ask(*told, *scrolls, ("scrolled", 0), ("scrolled", 1))
        self.assertEqual(found[2:], [[0, FAR, 1], [0, FAR, FAR], [0, -1, FAR - 1], [0, FAR - 1, FAR], [0, FAR, FAR]])


class Refused(unittest.TestCase):
    def test_no_such_scroller(self):
        for number in (-1, 3, 64, LOWEST, HIGHEST):
            self.assertEqual(last(*NESTED, ("scroll", number, 1, 1)), [-8], number)
            self.assertEqual(last(*NESTED, ("scrolled", number)), [-8], number)

    def test_x_and_y_at_both_ends_and_one_beyond(self):
        for number, granted in ((FAR, True), (-FAR, True), (FAR + 1, False), (-FAR - 1, False)):
            for call in (("scroll", 0, number, 0), ("scroll", 0, 0, number)):
                self.assertEqual(last(*NESTED, call)[0], 0 if granted else -8, call)
        for number in (LOWEST, HIGHEST):
            self.assertEqual(last(*NESTED, ("scroll", 0, number, 0)), [-8], number)
            self.assertEqual(last(*NESTED, ("scroll", 0, 0, number)), [-8], number)

    def test_nothing_has_changed_then(self):
        for wrong in ((3, 1, 1), (-1, 1, 1), (2, FAR + 1, 1), (2, 1, FAR + 1), (2, -FAR - 1, -1), (2, -1, -FAR - 1)):
            self.assertEqual(went((2, 20, 30), wrong), ([-8], [(5, 4), (10, 20), (5, 6)]), wrong)

    def test_before_a_begin_is_granted(self):
        calls = [("begin", -1, 0, 0, 0), ("scrolled", 0), ("scrolled", 1), ("scroll", 0, 4, 4), ("scroll", 1, 4, 4)]
        self.assertEqual(ask(*calls), [[-8], [0, 0, 0], [-8], [0, 0, 0], [-8]])


class Scrolled(unittest.TestCase):
    def test_what_show_has_left(self):
        calls = [("item", 1, 2, 23, 0, 2, 2, 1, -1), ("scroll", 2, 0, 26), ("show", 0)]
        self.assertEqual(ask(*NESTED, *calls, *ALL_SCROLLED)[-3:], [[0, 0, 0], [0, 0, 10], [0, 5, 0]])

    def test_asking_changes_nothing(self):
        found = ask(*NESTED, ("scroll", 2, 20, 30), *ALL_SCROLLED, *ALL_SCROLLED)
        self.assertEqual(found[-3:], found[-6:-3])


if __name__ == "__main__":
    unittest.main()
