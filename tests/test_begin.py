"""Point 1, and what holds until a begin answers 0."""

import unittest

from asking import FAR, HIGHEST, LOWEST, ask, last
from hitpage.kept import Page
from hitpage.telling import begin


def shown_size(*calls):
    """Whether the view shows the points 0, 0 and 9, 4 and 10, 0 and 0, 5."""
    points = [("hit", 0, 0), ("hit", 9, 4), ("hit", 10, 0), ("hit", 0, 5)]
    return [answer[0] for answer in ask(*calls, ("item", 1, 0, -50, -50, 100, 100, 1, -1), *points)[-4:]]


class Begin(unittest.TestCase):
    def test_answers_0(self):
        self.assertEqual(ask(("begin", 10, 5, 20, 30)), [[0]])

    def test_each_number_at_both_ends_and_one_beyond(self):
        for place in range(4):
            for number, answer in ((0, 0), (FAR, 0), (-1, -8), (FAR + 1, -8), (LOWEST, -8), (HIGHEST, -8)):
                numbers = [7, 7, 7, 7]
                numbers[place] = number
                self.assertEqual(ask(("begin", *numbers)), [[answer]], numbers)

    def test_the_view_has_that_size(self):
        self.assertEqual(shown_size(("begin", 10, 5, 100, 100)), [0, 0, -3, -3])

    def test_a_content_smaller_than_the_view_takes_nothing_from_it(self):
        self.assertEqual(shown_size(("begin", 10, 5, 0, 0)), [0, 0, -3, -3])

    def test_again_sets_all_back(self):
        calls = [
            ("begin", 10, 5, 10, 5),
            ("scroller", 0, 0, 0, 10, 5, 10, 5),
            ("letter", 3, 1, 0, 0, 4, 4, 0, 0, "a"),
            ("choose", 3, 0, 3, 1),
            ("begin", 8, 8, 9, 9),
            ("chosen",),
            ("hit", 0, 0),
            ("near", 0, 0),
            ("caret", 3, 0),
            ("item", 1, 1, 0, 0, 1, 1, 1, -1),
            ("scroller", 0, 0, 0, 1, 1, 1, 1),
            ("item", 1, 0, 7, 7, 5, 5, 1, -1),
            ("hit", 7, 7),
            ("hit", 8, 7),
        ]
        self.assertEqual(
            ask(*calls)[4:],
            [[0], [0, 0], [-3], [-3], [-3], [-8], [1], [0], [0, 0, 1, 0, 0], [-3]],
        )

    def test_the_view_begins_unscrolled_and_without_a_focus(self):
        page = Page()
        page.scroller_list[0].scrolled_x = 3
        page.focus = 0
        self.assertEqual(begin(page, 1, 2, 3, 4), [0])
        view = page.scroller_list[0]
        self.assertEqual((view.scrolled_x, view.scrolled_y), (0, 0))
        self.assertEqual((view.content_width, view.content_height), (3, 4))
        self.assertEqual((page.focus, page.choice), (-1, None))

    def test_a_refused_one_changes_nothing(self):
        calls = [
            ("begin", 10, 5, 10, 5),
            ("scroller", 0, 0, 0, 10, 5, 10, 5),
            ("letter", 3, 1, 0, 0, 4, 4, 0, 0, "a"),
            ("choose", 3, 0, 3, 1),
            ("begin", 10, 5, 10, -1),
            ("chosen",),
            ("hit", 0, 0),
            ("item", 1, 1, 9, 4, 5, 5, 1, -1),
            ("hit", 9, 4),
            ("hit", 10, 4),
        ]
        self.assertEqual(
            ask(*calls)[4:],
            [[-8], [1, 0], [0, 0, 3, 0, 0, 0], [1], [0, 1, 1, 0, 0], [-3]],
        )


class FirstBeginRefused(unittest.TestCase):
    def test_all_is_as_behind_begin_of_nothing(self):
        rest = [
            ("chosen",),
            ("near", 0, 0),
            ("scroller", 0, 0, 0, 9, 9, 9, 9),
            ("item", 1, 0, -5, -5, 10, 10, 1, -1),
            ("letter", 2, 1, 3, 4, 5, 6, 0, 0, "a"),
            ("hit", 0, 0),
            ("hit", 3, 4),
            ("near", 3, 4),
            ("caret", 2, 1),
            ("choose", 2, 0, 2, 1),
            ("chosen",),
        ]
        refused = ask(("begin", -1, 5, 5, 5), *rest)
        self.assertEqual(refused[0], [-8])
        self.assertEqual(
            refused[1:],
            [[0, 0], [-3], [1], [0], [1], [-3], [-3], [0, 1, 2, 0], [0, 8, 4, 6], [1], [1, 1]],
        )
        self.assertEqual(refused[1:], ask(("begin", 0, 0, 0, 0), *rest)[1:])

    def test_the_view_and_its_content_have_no_size(self):
        view = Page().scroller_list[0]
        self.assertEqual((view.box.width, view.box.height, view.content_width, view.content_height), (0, 0, 0, 0))

    def test_a_later_begin_is_taken(self):
        self.assertEqual(
            last(("begin", 5, -1, 5, 5), ("begin", 5, 5, 5, 5), ("item", 1, 0, 0, 0, 5, 5, 1, -1), ("hit", 4, 4)),
            [0, 0, 1, 4, 4],
        )


if __name__ == "__main__":
    unittest.main()
