"""What is asked of the screen is answered of it as it is scrolled then."""

import unittest

from asking import ask

# The scroller 1 lies at 40, 50 in the view, the scroller 2 at 10, 10 in that.
PAGE = [
    ("begin", 100, 100, 500, 500),
    ("scroller", 0, 40, 50, 40, 30, 140, 130),
    ("scroller", 1, 10, 10, 20, 20, 90, 90),
    ("letter", 1, 0, 30, 30, 6, 5, 0, 0, "a"),
    ("letter", 2, 1, 5, 6, 6, 4, 0, 0, "b"),
    ("letter", 3, 2, 3, 4, 6, 7, 0, 1, "c"),
]


def look(scrolls, *calls):
    return ask(*PAGE, *scrolls, *calls)[len(PAGE) + len(scrolls):]


class Unscrolled(unittest.TestCase):
    def test_all(self):
        calls = [("hit", 31, 31), ("hit", 46, 58), ("hit", 54, 65), ("near", 54, 65), ("caret", 3, 0), ("caret", 3, 1)]
        wanted = [
            [0, 0, 1, 1, 1, 0], [0, 1, 2, 1, 2, 0], [0, 2, 3, 1, 1, 1], [0, 2, 3, 1], [0, 59, 64, 7], [0, 53, 64, 7],
        ]
        self.assertEqual(look([], *calls), wanted)


class Scrolled(unittest.TestCase):
    def test_hit_by_the_view(self):
        wanted = [[0, 0, 1, 1, 1, 0], [0, 1, 2, 1, 2, 0], [0, 2, 3, 1, 1, 1], [-3]]
        found = look([("scroll", 0, 20, 10)], ("hit", 11, 21), ("hit", 26, 48), ("hit", 34, 55), ("hit", 54, 65))
        self.assertEqual(found, wanted)

    def test_hit_by_a_scroller_within(self):
        wanted = [[0, 0, 1, 1, 1, 0], [0, 1, 2, 2, 3, 0], [-3], [0, 2, 3, 1, 1, 1]]
        found = look([("scroll", 1, 5, 3)], ("hit", 31, 31), ("hit", 42, 56), ("hit", 39, 56), ("hit", 49, 62))
        self.assertEqual(found, wanted)

    def test_hit_only_where_it_is_shown_then(self):
        # The letter of the scroller 2 is scrolled out of it to the left, all but 2 of it.
        found = look([("scroll", 2, 7, 0)], ("hit", 50, 65), ("hit", 51, 65), ("hit", 52, 65), ("hit", 49, 65))
        self.assertEqual(found, [[0, 2, 3, 4, 1, 0], [0, 2, 3, 5, 1, 0], [-3], [-3]])

    def test_near(self):
        self.assertEqual(look([], ("near", 43, 50)), [[0, 1, 2, 0]])
        self.assertEqual(look([("scroll", 2, 0, 20)], ("near", 43, 50)), [[0, 2, 3, 1]])
        self.assertEqual(look([("scroll", 0, 0, 30), ("scroll", 0, 5, 0)], ("near", 26, 4)), [[0, 0, 1, 0]])
        self.assertEqual(look([("scroll", 0, 0, 30), ("scroll", 0, 5, 0)], ("near", 28, 4)), [[0, 0, 1, 1]])

    def test_caret(self):
        scrolls = [("scroll", 0, 20, 10), ("scroll", 1, 5, 3), ("scroll", 2, 2, 1)]
        found = look(scrolls, ("caret", 1, 0), ("caret", 2, 1), ("caret", 3, 0), ("caret", 3, 1))
        self.assertEqual(found, [[0, 10, 20, 5], [0, 26, 43, 4], [0, 32, 50, 7], [0, 26, 50, 7]])

    def test_rectangles(self):
        scrolls = [("scroll", 0, 20, 10), ("scroll", 1, 5, 3), ("scroll", 2, 2, 1)]
        found = look(scrolls, ("choose", 1, 0, 3, 1), ("rectangles",), ("scroll", 0, -20, -10), ("rectangles",))
        self.assertEqual(found[1], [3, 10, 20, 6, 5, 20, 43, 6, 4, 26, 50, 6, 7])
        self.assertEqual(found[3], [3, 30, 30, 6, 5, 40, 53, 6, 4, 46, 60, 6, 7])

    def test_seen(self):
        asked = [("seen", 0), ("seen", 1), ("seen", 2)]
        found = look([], *asked)
        self.assertEqual(found, [[0, 30, 30, 6, 5], [0, 45, 56, 6, 4], [0, 53, 64, 6, 7]])
        found = look([("scroll", 2, 7, 5), ("scroll", 1, 7, 7), ("scroll", 0, 31, 35)], *asked)
        self.assertEqual(found, [[-3], [0, 9, 15, 4, 3], [0, 12, 18, 2, 6]])

    def test_what_is_left_over_moves_what_is_outside(self):
        # The scroller 2 can go 70, the scroller 1 100, so 10 is left for the view.
        found = look([("scroll", 2, 180, 0)], ("caret", 1, 0), ("caret", 2, 0), ("caret", 3, 1))
        self.assertEqual(found, [[0, 20, 30, 5], [0, -65, 56, 4], [0, -127, 64, 7]])

    def test_what_show_has_left(self):
        calls = [("show", 2), ("caret", 3, 1), ("hit", 53, 65), ("near", 53, 65)]
        found = look([("scroll", 2, 70, 70), ("scroll", 1, 100, 100)], *calls)
        self.assertEqual(found, [[0, 1], [0, 40, 50, 7], [-3], [0, 2, 3, 0]])

    def test_there_and_back(self):
        asked = [("hit", 54, 65), ("near", 10, 10), ("caret", 2, 0), ("seen", 2)]
        there_and_back = [("scroll", 2, 180, 100), ("scroll", 2, -180, -100)]
        self.assertEqual(look(there_and_back, *asked), look([], *asked))


if __name__ == "__main__":
    unittest.main()
