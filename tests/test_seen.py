"""Point 15: seen."""

import unittest

from asking import FAR, HIGHEST, LOWEST, ask, last

BEGIN = ("begin", 100, 80, 500, 500)
INNER = ("scroller", 0, 20, 30, 40, 20, 200, 200)


def item(x, y, width, height, scroller=0):
    return ("item", 1, scroller, x, y, width, height, 1, -1)


def seen(box, *scrolls):
    return last(BEGIN, INNER, item(*box), *[("scroll", *numbers) for numbers in scrolls], ("seen", 0))


class InTheView(unittest.TestCase):
    def test_the_whole(self):
        self.assertEqual(seen((10, 20, 30, 40)), [0, 10, 20, 30, 40])
        self.assertEqual(seen((0, 0, 100, 80)), [0, 0, 0, 100, 80])
        self.assertEqual(seen((99, 79, 1, 1)), [0, 99, 79, 1, 1])

    def test_a_part(self):
        self.assertEqual(seen((-5, 20, 30, 40)), [0, 0, 20, 25, 40])
        self.assertEqual(seen((10, -6, 30, 40)), [0, 10, 0, 30, 34])
        self.assertEqual(seen((90, 20, 30, 40)), [0, 90, 20, 10, 40])
        self.assertEqual(seen((10, 70, 30, 40)), [0, 10, 70, 30, 10])
        self.assertEqual(seen((-1, -1, 300, 300)), [0, 0, 0, 100, 80])

    def test_none(self):
        for box in ((-30, 0, 30, 9), (100, 0, 30, 9), (0, -9, 30, 9), (0, 80, 30, 9), (300, 300, 9, 9)):
            self.assertEqual(seen(box), [-3], box)

    def test_one_more_and_it_is_seen(self):
        self.assertEqual(seen((-29, 0, 30, 9)), [0, 0, 0, 1, 9])
        self.assertEqual(seen((99, 0, 30, 9)), [0, 99, 0, 1, 9])
        self.assertEqual(seen((0, -8, 30, 9)), [0, 0, 0, 30, 1])
        self.assertEqual(seen((0, 79, 30, 9)), [0, 0, 79, 30, 1])

    def test_without_width_or_height_none_is(self):
        for box in ((10, 10, 0, 5), (10, 10, 5, 0), (10, 10, 0, 0)):
            self.assertEqual(seen(box), [-3], box)

    def test_scrolled(self):
        self.assertEqual(seen((110, 120, 30, 40), (0, 50, 60)), [0, 60, 60, 30, 20])
        self.assertEqual(seen((10, 20, 30, 40), (0, 20, 30)), [0, 0, 0, 20, 30])
        self.assertEqual(seen((10, 20, 30, 40), (0, 40, 0)), [-3])

    def test_far_boxes(self):
        self.assertEqual(seen((-FAR, -FAR, FAR, FAR)), [-3])
        self.assertEqual(seen((-1, -1, FAR, FAR)), [0, 0, 0, 100, 80])
        self.assertEqual(seen((FAR, FAR, FAR, FAR)), [-3])

    def test_letters_and_items_that_are_not_open(self):
        self.assertEqual(last(BEGIN, ("letter", 1, 0, 90, 1, 20, 9, 0, 0, "a"), ("seen", 0)), [0, 90, 1, 10, 9])
        self.assertEqual(last(BEGIN, ("item", 1, 0, 90, 1, 20, 9, 0, 3), ("seen", 0)), [0, 90, 1, 10, 9])

    def test_an_item_above_hides_nothing(self):
        self.assertEqual(last(BEGIN, item(5, 5, 5, 5), item(0, 0, 50, 50), ("seen", 0)), [0, 5, 5, 5, 5])

    def test_of_several_the_one_that_is_asked(self):
        items = [item(k, k + 1, 5, 6) for k in range(3)]
        found = ask(BEGIN, *items, ("seen", 0), ("seen", 1), ("seen", 2))
        self.assertEqual(found[-3:], [[0, 0, 1, 5, 6], [0, 1, 2, 5, 6], [0, 2, 3, 5, 6]])


class InScrollers(unittest.TestCase):
    def test_the_whole_a_part_and_none(self):
        self.assertEqual(seen((5, 6, 10, 10, 1)), [0, 25, 36, 10, 10])
        self.assertEqual(seen((-5, -6, 10, 10, 1)), [0, 20, 30, 5, 4])
        self.assertEqual(seen((35, 15, 10, 10, 1)), [0, 55, 45, 5, 5])
        self.assertEqual(seen((40, 0, 10, 10, 1)), [-3])
        self.assertEqual(seen((0, 20, 10, 10, 1)), [-3])

    def test_scrolled(self):
        self.assertEqual(seen((100, 50, 10, 10, 1), (1, 95, 45)), [0, 25, 35, 10, 10])
        self.assertEqual(seen((100, 50, 10, 10, 1), (1, 105, 55)), [0, 20, 30, 5, 5])
        self.assertEqual(seen((0, 0, 40, 20, 1), (0, 25, 35)), [0, 0, 0, 35, 15])
        self.assertEqual(seen((0, 0, 40, 20, 1), (0, 25, 35), (1, 3, 4)), [0, 0, 0, 32, 11])
        self.assertEqual(seen((0, 0, 10, 10, 1), (0, 30, 0)), [-3])

    def test_within_one_another(self):
        deeper = ("scroller", 1, 30, -5, 30, 15, 100, 100)
        for box, answer in (
            ((0, 0, 5, 12), [0, 50, 30, 5, 7]),
            ((0, 0, 50, 50), [0, 50, 30, 10, 10]),
            ((10, 5, 5, 5), [-3]),
            ((9, 5, 5, 5), [0, 59, 30, 1, 5]),
            ((0, 0, 5, 5), [-3]),
            ((0, 0, 5, 6), [0, 50, 30, 5, 1]),
        ):
            self.assertEqual(last(BEGIN, INNER, deeper, item(*box, 2), ("seen", 0)), answer, box)

    def test_a_scroller_that_is_not_shown_shows_nothing(self):
        for beyond in ((1, 40, 0), (1, -30, 0), (1, 0, 20), (1, 0, -30)):
            deeper = ("scroller", *beyond, 30, 30, 100, 100)
            self.assertEqual(last(BEGIN, INNER, deeper, item(-99, -99, 300, 300, 2), ("seen", 0)), [-3], beyond)

    def test_a_scroller_without_size_shows_nothing(self):
        for width, height in ((0, 9), (9, 0)):
            flat = ("scroller", 0, 5, 5, width, height, 9, 9)
            self.assertEqual(last(BEGIN, flat, item(-9, -9, 50, 50, 1), ("seen", 0)), [-3])

    def test_64_in_one_another(self):
        told = [("scroller", outer, 1, 1, 100, 100, 200, 200) for outer in range(63)]
        self.assertEqual(last(BEGIN, *told, item(0, 0, 90, 90, 63), ("seen", 0)), [0, 63, 63, 37, 17])


class Refused(unittest.TestCase):
    def test_no_such_item(self):
        for number in (-1, 1, LOWEST, HIGHEST):
            self.assertEqual(last(BEGIN, item(0, 0, 5, 5), ("seen", number)), [-8], number)
        self.assertEqual(last(BEGIN, ("seen", 0)), [-8])

    def test_nothing_is_shown_before_a_begin_is_granted(self):
        self.assertEqual(last(("begin", 5, 5, 5, -1), item(-5, -5, 50, 50), ("seen", 0)), [-3])


if __name__ == "__main__":
    unittest.main()
