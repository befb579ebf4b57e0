"""Point 14: show."""

import unittest

from asking import FAR, HIGHEST, LOWEST, ask, last

# The view shows 100 of 500, so it can go 400.
BEGIN = ("begin", 100, 100, 500, 500)


def shown(start, size, scrolled_to, across=True):
    """What show answers of an item that lies there, and how far the view is scrolled then, along one side."""
    item = (start, 10, size, 10) if across else (10, start, 10, size)
    go = (scrolled_to, 0) if across else (0, scrolled_to)
    found = ask(BEGIN, ("item", 1, 0, *item, 1, -1), ("scroll", 0, *go), ("show", 0), ("scrolled", 0))
    return found[-2], found[-1][1 if across else 2]


class AlongOneSide(unittest.TestCase):
    def look(self, start, size, scrolled_to, answer, then):
        for across in (True, False):
            self.assertEqual(shown(start, size, scrolled_to, across), (answer, then), (start, size, scrolled_to))

    def test_within_what_is_shown_nothing_goes(self):
        self.look(230, 20, 200, [0, 1], 200)
        self.look(200, 20, 200, [0, 1], 200)
        self.look(280, 20, 200, [0, 1], 200)
        self.look(200, 100, 200, [0, 1], 200)

    def test_before_what_is_shown_its_first_side_goes_to_the_beginning(self):
        self.look(199, 20, 200, [0, 1], 199)
        self.look(50, 20, 200, [0, 1], 50)
        self.look(0, 20, 200, [0, 1], 0)
        self.look(150, 100, 200, [0, 1], 150)

    def test_beyond_what_is_shown_its_second_side_goes_to_the_end(self):
        self.look(281, 20, 200, [0, 1], 201)
        self.look(400, 20, 200, [0, 1], 320)
        self.look(480, 20, 200, [0, 1], 400)
        self.look(250, 100, 200, [0, 1], 250)

    def test_wider_than_what_is_shown_its_first_side_goes_to_the_beginning(self):
        self.look(150, 101, 200, [0, 0], 150)
        self.look(200, 101, 200, [0, 0], 200)
        self.look(210, 101, 200, [0, 0], 210)
        self.look(250, 200, 100, [0, 0], 250)

    def test_as_far_as_it_can(self):
        self.look(-30, 20, 200, [0, 0], 0)
        self.look(-10, 20, 200, [0, 0], 0)
        self.look(490, 20, 200, [0, 0], 400)
        self.look(FAR, 20, 200, [0, 0], 400)
        self.look(-FAR, 20, 200, [0, 0], 0)
        self.look(450, 200, 200, [0, 0], 400)
        self.look(-50, 300, 200, [0, 0], 0)

    def test_without_size_it_goes_too_but_is_never_seen(self):
        self.look(230, 0, 200, [0, 0], 200)
        self.look(200, 0, 200, [0, 0], 200)
        self.look(300, 0, 200, [0, 0], 200)
        self.look(301, 0, 200, [0, 0], 201)
        self.look(199, 0, 200, [0, 0], 199)

    def test_a_content_that_is_not_wider_or_higher(self):
        item = ("item", 1, 0, 120, 130, 5, 5, 1, -1)
        found = ask(("begin", 100, 100, 100, 90), item, ("show", 0), ("scrolled", 0))
        self.assertEqual(found[-2:], [[0, 0], [0, 0, 0]])


class BothSides(unittest.TestCase):
    def scrolled(self, box, go):
        found = ask(BEGIN, ("item", 1, 0, *box, 1, -1), ("scroll", 0, *go), ("show", 0), ("scrolled", 0))
        return found[-2] + found[-1][1:]

    def test_x_and_y_each_by_itself(self):
        self.assertEqual(self.scrolled((50, 400, 20, 20), (200, 200)), [0, 1, 50, 320])
        self.assertEqual(self.scrolled((400, 50, 20, 20), (200, 200)), [0, 1, 320, 50])
        self.assertEqual(self.scrolled((250, 50, 20, 20), (200, 200)), [0, 1, 200, 50])
        self.assertEqual(self.scrolled((250, 350, 200, 20), (200, 200)), [0, 0, 250, 270])
        self.assertEqual(self.scrolled((250, 350, 20, 200), (200, 200)), [0, 0, 200, 350])

    def test_seen_whole_along_both(self):
        self.assertEqual(self.scrolled((490, 50, 20, 20), (200, 200)), [0, 0, 400, 50])
        self.assertEqual(self.scrolled((50, 490, 20, 20), (200, 200)), [0, 0, 50, 400])

    def test_width_and_height_of_the_view_are_told_apart(self):
        calls = [("begin", 100, 50, 500, 500), ("item", 1, 0, 90, 90, 60, 60, 1, -1), ("show", 0), ("scrolled", 0)]
        self.assertEqual(ask(*calls)[-2:], [[0, 0], [0, 50, 90]])

    def test_letters_and_items_that_are_not_open(self):
        letter = ("letter", 1, 0, 300, 10, 20, 20, 0, 0, "a")
        self.assertEqual(ask(BEGIN, letter, ("show", 0), ("scrolled", 0))[-2:], [[0, 1], [0, 220, 0]])
        closed = ("item", 1, 0, 300, 10, 20, 20, 0, -1)
        self.assertEqual(ask(BEGIN, closed, ("show", 0), ("scrolled", 0))[-2:], [[0, 1], [0, 220, 0]])

    def test_of_several_the_one_that_is_asked(self):
        items = [("item", 1, 0, x, 10, 20, 20, 1, -1) for x in (0, 300, 200)]
        for number, then in ((1, 220), (2, 120), (0, 0)):
            found = ask(BEGIN, *items, ("show", number), ("scrolled", 0))
            self.assertEqual(found[-2:], [[0, 1], [0, then, 0]], number)

    def test_one_behind_another(self):
        items = [("item", 1, 0, x, 10, 20, 20, 1, -1) for x in (0, 300, 200)]
        shows = [("show", 1), ("scrolled", 0), ("show", 2), ("scrolled", 0), ("show", 1), ("scrolled", 0)]
        found = ask(BEGIN, *items, *shows)
        self.assertEqual(found[-6:], [[0, 1], [0, 220, 0], [0, 1], [0, 200, 0], [0, 1], [0, 220, 0]])


class Nested(unittest.TestCase):
    """The scroller 1 lies at 300, 200 in the view, and shows 40 by 40 of 200 by 200."""

    INNER = ("scroller", 0, 300, 200, 40, 40, 200, 200)

    def shown(self, item, *before, more=()):
        scrollers = 2 + len(more)
        asked = [("scrolled", number) for number in range(scrollers)]
        found = ask(BEGIN, self.INNER, *more, ("item", 1, scrollers - 1, *item, 1, -1), *before, ("show", 0), *asked)
        return found[-scrollers - 1], [tuple(answer[1:]) for answer in found[-scrollers:]]

    def test_the_inner_one_first_then_the_outer_one_by_as_much_as_is_left(self):
        # Scrolled by 70 the item's right side is at 40 of the box, so at 340 of the view's content.
        self.assertEqual(self.shown((100, 0, 10, 10)), ([0, 1], [(240, 110), (70, 0)]))

    def test_the_item_s_box_counts_there_not_the_scroller_s(self):
        # It lies at 305 to 315 of the view's content, which is all that must be shown.
        self.assertEqual(self.shown((5, 7, 10, 10)), ([0, 1], [(215, 117), (0, 0)]))

    def test_before_what_is_shown_in_both(self):
        before = [("scroll", 1, 100, 100), ("scroll", 0, 350, 350)]
        self.assertEqual(self.shown((90, 80, 10, 10), *before), ([0, 1], [(300, 200), (90, 80)]))

    def test_the_box_as_it_lies_then(self):
        # In the inner one it can't go all the way: the item stays 10 before its box, at 290 of the view's content.
        before = [("scroll", 1, 100, 0), ("scroll", 0, 350, 150)]
        self.assertEqual(self.shown((-10, 0, 10, 10), *before), ([0, 0], [(290, 150), (0, 0)]))

    def test_what_is_shown_is_each_scroller_s_own_box(self):
        # Of the inner one's box the view shows nothing yet; the item is within it all the same.
        self.assertEqual(self.shown((30, 30, 10, 10)), ([0, 1], [(240, 140), (0, 0)]))
        # The view shows the first 10 of it alone; the inner one stays all the same.
        before = [("scroll", 0, 210, 150)]
        self.assertEqual(self.shown((20, 0, 15, 10), *before), ([0, 1], [(235, 150), (0, 0)]))

    def test_wider_than_the_inner_one_but_not_than_the_outer_one(self):
        # In the view the whole box counts: 300 to 350.
        self.assertEqual(self.shown((60, 0, 50, 10)), ([0, 0], [(250, 110), (60, 0)]))

    def test_wider_than_both(self):
        self.assertEqual(self.shown((60, 0, 120, 10)), ([0, 0], [(300, 110), (60, 0)]))

    def test_three_deep(self):
        # The scroller 2 lies at 100, 10 in the scroller 1 and shows 20 by 20 of 50 by 50.
        more = [("scroller", 1, 100, 10, 20, 20, 50, 50)]
        self.assertEqual(self.shown((30, 0, 10, 10), more=more), ([0, 1], [(240, 120), (80, 0), (20, 0)]))

    def test_not_seen_whole_where_an_outer_one_hides_a_part(self):
        # The scroller 2 lies beyond what the scroller 1 can show.
        more = [("scroller", 1, 195, 0, 20, 20, 20, 20)]
        self.assertEqual(self.shown((0, 0, 10, 10), more=more), ([0, 0], [(245, 110), (160, 0), (0, 0)]))

    def test_others_stay(self):
        calls = [
            BEGIN,
            self.INNER,
            ("scroller", 0, 0, 0, 10, 10, 90, 90),
            ("scroller", 1, 0, 0, 10, 10, 90, 90),
            ("scroll", 2, 7, 7),
            ("scroll", 3, 8, 8),
            ("item", 1, 1, 100, 100, 10, 10, 1, -1),
            ("show", 0),
            ("scrolled", 2),
            ("scrolled", 3),
        ]
        self.assertEqual(ask(*calls)[-3:], [[0, 1], [0, 7, 7], [0, 8, 8]])

    def test_64_in_one_another(self):
        told = [("scroller", outer, 0, 0, 10, 10, 30, 30) for outer in range(63)]
        item = ("item", 1, 63, 25, 12, 5, 5, 1, -1)
        asked = [("show", 0), ("scrolled", 63), ("scrolled", 62), ("seen", 0)]
        found = ask(("begin", 10, 10, 30, 30), *told, item, *asked)
        self.assertEqual(found[-4:], [[0, 1], [0, 20, 7], [0, 0, 0], [0, 5, 5, 5, 5]])


class Again(unittest.TestCase):
    def test_a_second_time_nothing_goes(self):
        item = ("item", 1, 1, 100, 0, 10, 10, 1, -1)
        asked = [("show", 0), ("scrolled", 0), ("scrolled", 1)]
        found = ask(BEGIN, Nested.INNER, item, *asked, *asked)
        self.assertEqual(found[-3:], found[-6:-3])

    def test_neither_choice_nor_focus_change(self):
        items = [("item", 1, 0, 0, 0, 5, 5, 1, 0), ("item", 2, 0, 400, 400, 5, 5, 1, 0)]
        letter = ("letter", 3, 0, 0, 0, 5, 5, 0, 0, "a")
        calls = [BEGIN, *items, letter, ("choose", 3, 0, 3, 1), ("focus", 0), ("show", 1), ("chosen",), ("turn", 0)]
        self.assertEqual(ask(*calls)[-2:], [[1, 2], [0, 1, 2]])


class Refused(unittest.TestCase):
    def test_no_such_item(self):
        item = ("item", 1, 0, 400, 400, 5, 5, 1, 0)
        for number in (-1, 1, LOWEST, HIGHEST):
            found = ask(BEGIN, item, ("show", number), ("scrolled", 0))
            self.assertEqual(found[-2:], [[-8], [0, 0, 0]], number)
        self.assertEqual(last(BEGIN, ("show", 0)), [-8])


if __name__ == "__main__":
    unittest.main()
