"""Point 1, and what holds until a begin answers 0."""

import unittest

from asking import FAR, HIGHEST, LOWEST, ask, last
from hitpage.kept import Page
from hitpage.telling import begin


def shown_size(*calls):
    """Whether the view shows the points 0, 0 and 9, 4 and 10, 0 and 0, 5."""
    points = [("hit", 0, 0), ("hit", 9, 4), ("hit", 10, 0), ("hit", 0, 5)]
    return [answer[0] for answer in ask(*calls, ("item", 1, 0, -50, -50, 100, 100, 1, -1), *points)[-4:]]


class Begin(unittest.TestCase):
    def test_answers_0(self):
        self.assertEqual(ask(("begin", 10, 5, 20, 30)), [[0]])

    def test_each_number_at_both_ends_and_one_beyond(self):
        for place in range(4):
            for number, answer in ((0, 0), (FAR, 0), (-1, -8), (FAR + 1, -8), (LOWEST, -8), (HIGHEST, -8)):
                numbers = [7, 7, 7, 7]
                numbers[place] = number
                self.assertEqual(ask(("begin", *numbers)), [[answer]], numbers)

    def test_the_view_has_that_size(self):
        self.assertEqual(shown_size(("begin", 10, 5, 100, 100)), [0, 0, -3, -3])

    def test_a_content_smaller_than_the_view_takes_nothing_from_it(self):
        self.assertEqual(shown_size(("begin", 10, 5, 0, 0)), [0, 0, -3, -3])

    def test_again_sets_all_back(self):
        calls = [
            ("begin", 10, 5, 10, 5),
            ("scroller", 0, 0, 0, 10, 5, 10, 5),
            ("letter", 3, 1, 0, 0, 4, 4, 0, 0, "a"),
            ("choose", 3, 0, 3, 1),
            ("begin", 8, 8, 9, 9),
            ("chosen",),
            ("hit", 0, 0),
            ("near", 0, 0),
            ("caret", 3, 0),
            ("item", 1, 1, 0, 0, 1, 1, 1, -1),
            ("scroller", 0, 0, 0, 1, 1, 1, 1),
            ("item", 1, 0, 7, 7, 5, 5, 1, -1),
            ("hit", 7, 7),
            ("hit", 8, 7),
        ]
        self.assertEqual(
            ask(*calls)[4:],
            [[0], [0, 0], [-3], [-3], [-3], [-8], [1], [0], [0, 0, 1, 0, 0], [-3]],
        )

    def test_again_forgets_how_far_the_view_was_scrolled(self):
        calls = [("begin", 10, 10, 90, 90), ("scroll", 0, 7, 8), ("begin", 10, 10, 90, 90), ("scrolled", 0)]
        self.assertEqual(last(*calls), [0, 0, 0])
        item = ("item", 1, 0, 0, 0, 5, 5, 1, -1)
        self.assertEqual(last(*calls, item, ("hit", 1, 2)), [0, 0, 1, 1, 2])
        self.assertEqual(last(*calls, item, ("seen", 0)), [0, 0, 0, 5, 5])

    def test_again_takes_the_new_sizes_for_scrolling(self):
        calls = [("begin", 10, 10, 90, 90), ("begin", 20, 30, 25, 37), ("scroll", 0, 50, 50)]
        self.assertEqual(last(*calls), [0, 5, 7])

    def test_again_forgets_the_scrollers(self):
        calls = [
            ("begin", 10, 10, 90, 90),
            ("scroller", 0, 0, 0, 5, 5, 50, 50),
            ("scroll", 1, 9, 9),
            ("begin", 10, 10, 90, 90),
            ("scrolled", 1),
            ("scroll", 1, 1, 1),
            ("scroller", 0, 0, 0, 5, 5, 50, 50),
            ("scrolled", 1),
        ]
        self.assertEqual(ask(*calls)[4:], [[-8], [-8], [1], [0, 0, 0]])

    def test_again_forgets_the_focus(self):
        items = [("item", node, 0, 0, 0, 5, 5, 1, 0) for node in (6, 7, 8)]
        begin_again = ("begin", 10, 10, 90, 90)
        for set_before in (("focus", 1), ("turn", 0)):
            calls = [begin_again, *items, set_before, begin_again, ("turn", 0), *items]
            self.assertEqual(last(*calls, ("turn", 0)), [0, 0, 6], set_before)
            self.assertEqual(last(*calls, ("turn", 1)), [0, 2, 8], set_before)
            self.assertEqual(ask(*calls)[6], [-3], set_before)

    def test_again_forgets_the_choice_and_where_it_was(self):
        letters = [("letter", 1, 0, 0, 0, 5, 5, offset, 0, "a") for offset in (0, 1, 2)]
        begin_again = ("begin", 10, 10, 90, 90)
        for set_before in (("choose", 1, 1, 1, 2), ("choose", 1, 2, 1, 2), ("find", 0, 0, "aa")):
            calls = [begin_again, *letters, set_before, begin_again, *letters]
            asked = [("chosen",), ("text",), ("rectangles",), ("find", 0, 0, "a"), ("chosen",)]
            self.assertEqual(ask(*calls, *asked)[-5:], [[0, 0], [0], [0], [1], [1, 0]], set_before)
            self.assertEqual(ask(*calls, ("find", 0, 1, "a"), ("chosen",))[-2:], [[1], [1, 2]], set_before)

    def test_again_forgets_the_items(self):
        item = ("item", 1, 0, 0, 0, 5, 5, 1, 0)
        begin_again = ("begin", 10, 10, 90, 90)
        for asked, answer in ((("show", 0), -8), (("seen", 0), -8), (("focus", 0), -8), (("turn", 0), -3)):
            self.assertEqual(last(begin_again, item, begin_again, asked), [answer], asked)

    def test_a_refused_one_forgets_nothing(self):
        calls = [
            ("begin", 10, 10, 90, 90),
            ("item", 6, 0, 0, 0, 5, 5, 1, 0),
            ("item", 7, 0, 0, 0, 5, 5, 1, 0),
            ("letter", 1, 0, 0, 0, 5, 5, 0, 0, "a"),
            ("find", 0, 0, "a"),
            ("scroll", 0, 3, 4),
            ("focus", 0),
            ("begin", 10, 10, 90, FAR + 1),
            ("scrolled", 0),
            ("chosen",),
            ("turn", 0),
        ]
        self.assertEqual(ask(*calls)[7:], [[-8], [0, 3, 4], [1, 2], [0, 1, 7]])

    def test_the_view_begins_unscrolled_and_without_a_focus(self):
        page = Page()
        page.scroller_list[0].scrolled_x = 3
        page.focus = 0
        self.assertEqual(begin(page, 1, 2, 3, 4), [0])
        view = page.scroller_list[0]
        self.assertEqual((view.scrolled_x, view.scrolled_y), (0, 0))
        self.assertEqual((view.content_width, view.content_height), (3, 4))
        self.assertEqual((page.focus, page.choice), (-1, None))

    def test_a_refused_one_changes_nothing(self):
        calls = [
            ("begin", 10, 5, 10, 5),
            ("scroller", 0, 0, 0, 10, 5, 10, 5),
            ("letter", 3, 1, 0, 0, 4, 4, 0, 0, "a"),
            ("choose", 3, 0, 3, 1),
            ("begin", 10, 5, 10, -1),
            ("chosen",),
            ("hit", 0, 0),
            ("item", 1, 1, 9, 4, 5, 5, 1, -1),
            ("hit", 9, 4),
            ("hit", 10, 4),
        ]
        self.assertEqual(
            ask(*calls)[4:],
            [[-8], [1, 0], [0, 0, 3, 0, 0, 0], [1], [0, 1, 1, 0, 0], [-3]],
        )


class FirstBeginRefused(unittest.TestCase):
    def test_all_is_as_behind_begin_of_nothing(self):
        rest = [
            ("chosen",),
            ("near", 0, 0),
            ("scroller", 0, 0, 0, 9, 9, 9, 9),
            ("item", 1, 0, -5, -5, 10, 10, 1, -1),
            ("letter", 2, 1, 3, 4, 5, 6, 0, 0, "a"),
            ("hit", 0, 0),
            ("hit", 3, 4),
            ("near", 3, 4),
            ("caret", 2, 1),
            ("choose", 2, 0, 2, 1),
            ("chosen",),
            ("rectangles",),
            ("text",),
            ("scroll", 0, 5, 5),
            ("scrolled", 0),
            ("show", 0),
            ("seen", 0),
            ("find", 0, 0, "a"),
            ("turn", 0),
            ("focus", -1),
        ]
        refused = ask(("begin", -1, 5, 5, 5), *rest)
        self.assertEqual(refused[0], [-8])
        self.assertEqual(
            refused[1:],
            [[0, 0], [-3], [1], [0], [1], [-3], [-3], [0, 1, 2, 0], [0, 8, 4, 6], [1], [1, 1]]
            + [[1, 3, 4, 5, 6], [1, 97], [0, 0, 0], [0, 0, 0], [0, 0], [-3], [2], [-3], [0]],
        )
        self.assertEqual(refused[1:], ask(("begin", 0, 0, 0, 0), *rest)[1:])

    def test_the_view_and_its_content_have_no_size(self):
        view = Page().scroller_list[0]
        self.assertEqual((view.box.width, view.box.height, view.content_width, view.content_height), (0, 0, 0, 0))

    def test_a_later_begin_is_taken(self):
        self.assertEqual(
            last(("begin", 5, -1, 5, 5), ("begin", 5, 5, 5, 5), ("item", 1, 0, 0, 0, 5, 5, 1, -1), ("hit", 4, 4)),
            [0, 0, 1, 4, 4],
        )


if __name__ == "__main__":
    unittest.main()
