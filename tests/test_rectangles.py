"""Point 10: rectangles."""

import unittest

from asking import FAR, ask, last

BEGIN = ("begin", 100, 100, 500, 500)
INNER = ("scroller", 0, 30, 40, 20, 20, 90, 90)


def letter(x, y=0, width=10, height=12, scroller=0, backwards=0):
    return (x, y, width, height, scroller, backwards)


def told(letters):
    """The calls that tell the letters, the first one's ends being 0 and 1, and so on."""
    calls = []
    for offset, (x, y, width, height, scroller, backwards) in enumerate(letters):
        calls.append(("letter", 1, scroller, x, y, width, height, offset, backwards, "a"))
    return calls


def rectangles(*letters, before=(BEGIN, INNER), then=()):
    """What rectangles answers when all these letters are chosen."""
    return last(*before, *told(letters), ("choose", 1, 0, 1, len(letters)), *then, ("rectangles",))


class NothingChosen(unittest.TestCase):
    def test_at_first(self):
        self.assertEqual(last(BEGIN, ("rectangles",)), [0])
        self.assertEqual(last(BEGIN, *told([letter(0)]), ("rectangles",)), [0])

    def test_a_choice_of_none(self):
        self.assertEqual(last(BEGIN, *told([letter(0)]), ("choose", 1, 0, 1, 0), ("rectangles",)), [0])
        found = last(BEGIN, *told([letter(0)]), ("choose", 1, 0, 1, 1), ("choose", 1, 1, 1, 1), ("rectangles",))
        self.assertEqual(found, [0])


class OneLetter(unittest.TestCase):
    def test_its_box(self):
        self.assertEqual(rectangles(letter(7, 8, 9, 11)), [1, 7, 8, 9, 11])

    def test_without_width_or_height(self):
        self.assertEqual(rectangles(letter(7, 8, 0, 11)), [1, 7, 8, 0, 11])
        self.assertEqual(rectangles(letter(7, 8, 9, 0)), [1, 7, 8, 9, 0])

    def test_only_what_is_chosen(self):
        letters = told([letter(0), letter(10), letter(20), letter(30)])
        self.assertEqual(last(BEGIN, *letters, ("choose", 1, 1, 1, 3), ("rectangles",)), [1, 10, 0, 20, 12])
        self.assertEqual(last(BEGIN, *letters, ("choose", 1, 3, 1, 2), ("rectangles",)), [1, 20, 0, 10, 12])
        self.assertEqual(last(BEGIN, *letters, ("choose", 1, 4, 1, 3), ("rectangles",)), [1, 30, 0, 10, 12])

    def test_shown_or_not(self):
        self.assertEqual(rectangles(letter(-300, 700)), [1, -300, 700, 10, 12])
        self.assertEqual(rectangles(letter(15, 15, scroller=1)), [1, 45, 55, 10, 12])
        self.assertEqual(rectangles(letter(50, 60, scroller=1)), [1, 80, 100, 10, 12])


class Joined(unittest.TestCase):
    def test_to_the_right(self):
        self.assertEqual(rectangles(letter(5), letter(15), letter(25, width=3)), [1, 5, 0, 23, 12])

    def test_to_the_left(self):
        self.assertEqual(rectangles(letter(50), letter(40), letter(37, width=3)), [1, 37, 0, 23, 12])

    def test_backwards_changes_nothing(self):
        letters = [letter(50, backwards=1), letter(40, backwards=1), letter(60, backwards=1)]
        self.assertEqual(rectangles(*letters), [1, 40, 0, 30, 12])

    def test_to_either_side_of_what_is_there_not_of_the_last_letter(self):
        self.assertEqual(rectangles(letter(20), letter(30), letter(10)), [1, 10, 0, 30, 12])
        self.assertEqual(rectangles(letter(20), letter(10), letter(30)), [1, 10, 0, 30, 12])
        # The left side of the last letter is at 30, but what is there begins at 20.
        self.assertEqual(rectangles(letter(20), letter(30), letter(25, width=5)), [2, 20, 0, 20, 12, 25, 0, 5, 12])

    def test_without_width(self):
        self.assertEqual(rectangles(letter(20), letter(30, width=0), letter(30)), [1, 20, 0, 20, 12])
        self.assertEqual(rectangles(letter(20, width=0), letter(10)), [1, 10, 0, 10, 12])
        self.assertEqual(rectangles(letter(20, width=0), letter(20)), [1, 20, 0, 10, 12])
        self.assertEqual(rectangles(letter(20, width=0), letter(20, width=0)), [1, 20, 0, 0, 12])
        self.assertEqual(rectangles(letter(20), letter(20, width=0)), [1, 20, 0, 10, 12])
        self.assertEqual(rectangles(letter(20), letter(25, width=0)), [2, 20, 0, 10, 12, 25, 0, 0, 12])

    def test_other_items_between_change_nothing(self):
        letters = told([letter(20), letter(30)])
        item = ("item", 1, 0, 0, 0, 500, 500, 1, 5)
        found = last(BEGIN, letters[0], item, letters[1], ("choose", 1, 0, 1, 2), ("rectangles",))
        self.assertEqual(found, [1, 20, 0, 20, 12])

    def test_another_node_changes_nothing(self):
        calls = [
            BEGIN,
            ("letter", 1, 0, 0, 0, 10, 12, 0, 0, "a"),
            ("letter", 2, 0, 10, 0, 10, 12, 0, 0, "a"),
            ("choose", 1, 0, 2, 1),
            ("rectangles",),
        ]
        self.assertEqual(last(*calls), [1, 0, 0, 20, 12])


class Apart(unittest.TestCase):
    def test_a_gap(self):
        self.assertEqual(rectangles(letter(0), letter(11)), [2, 0, 0, 10, 12, 11, 0, 10, 12])
        self.assertEqual(rectangles(letter(11), letter(0)), [2, 11, 0, 10, 12, 0, 0, 10, 12])

    def test_one_over_another(self):
        self.assertEqual(rectangles(letter(0), letter(9)), [2, 0, 0, 10, 12, 9, 0, 10, 12])
        self.assertEqual(rectangles(letter(0), letter(0)), [2, 0, 0, 10, 12, 0, 0, 10, 12])

    def test_another_y(self):
        self.assertEqual(rectangles(letter(0), letter(10, 1)), [2, 0, 0, 10, 12, 10, 1, 10, 12])

    def test_another_height(self):
        self.assertEqual(rectangles(letter(0), letter(10, height=13)), [2, 0, 0, 10, 12, 10, 0, 10, 13])

    def test_another_scroller(self):
        self.assertEqual(rectangles(letter(0), letter(10, scroller=1)), [2, 0, 0, 10, 12, 40, 40, 10, 12])
        # On the screen they meet.
        self.assertEqual(rectangles(letter(20, 40), letter(0, 0, scroller=1)), [2, 20, 40, 10, 12, 30, 40, 10, 12])

    def test_joined_with_the_one_before_alone(self):
        letters = [letter(0), letter(0, 20), letter(10)]
        self.assertEqual(rectangles(*letters), [3, 0, 0, 10, 12, 0, 20, 10, 12, 10, 0, 10, 12])

    def test_two_lines(self):
        letters = [letter(0), letter(10), letter(0, 20), letter(10, 20), letter(20, 20)]
        self.assertEqual(rectangles(*letters), [2, 0, 0, 20, 12, 0, 20, 30, 12])


class Scrolled(unittest.TestCase):
    def test_where_they_are_then(self):
        letters = [letter(0, 5), letter(10, 5), letter(0, 5, scroller=1), letter(10, 5, scroller=1)]
        self.assertEqual(rectangles(*letters), [2, 0, 5, 20, 12, 30, 45, 20, 12])
        inner = [("scroll", 1, 7, 8)]
        self.assertEqual(rectangles(*letters, then=inner), [2, 0, 5, 20, 12, 23, 37, 20, 12])
        both = [("scroll", 1, 7, 8), ("scroll", 0, 100, 200)]
        self.assertEqual(rectangles(*letters, then=both), [2, -100, -195, 20, 12, -77, -163, 20, 12])

    def test_scrolling_changes_nothing_of_what_joins(self):
        # Scrolled by 10, the letter of the inner one lies where the other's right side is.
        letters = [letter(20, 40), letter(10, 0, scroller=1)]
        then = [("scroll", 1, 10, 0)]
        self.assertEqual(rectangles(*letters, then=then), [2, 20, 40, 10, 12, 30, 40, 10, 12])


class Exact(unittest.TestCase):
    def test_beyond_the_places(self):
        letters = [letter(FAR, FAR, FAR, FAR, 2), letter(0, FAR, FAR, FAR, 2), letter(-FAR, FAR, FAR, FAR, 2)]
        before = (BEGIN, ("scroller", 0, FAR, FAR, 1, 1, 1, 1), ("scroller", 1, FAR, FAR, 1, 1, 1, 1))
        self.assertEqual(rectangles(*letters, before=before), [1, FAR, 3 * FAR, 3 * FAR, FAR])

    def test_as_many_as_there_are_letters(self):
        letters = told([letter(20 * k) for k in range(390)])
        found = ask(BEGIN, *letters, ("choose", 1, 0, 1, 390), ("rectangles",))[-1]
        self.assertEqual(found[0], 390)
        self.assertEqual(len(found), 1 + 4 * 390)
        self.assertEqual(found[-4:], [20 * 389, 0, 10, 12])

    def test_asking_changes_nothing(self):
        found = ask(BEGIN, *told([letter(0), letter(10)]), ("choose", 1, 0, 1, 2), *[("rectangles",)] * 3, ("chosen",))
        self.assertEqual(found[-4:], [[1, 0, 0, 20, 12]] * 3 + [[2, 0]])


if __name__ == "__main__":
    unittest.main()
