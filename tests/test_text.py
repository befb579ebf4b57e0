"""Point 11: text."""

import unittest

from asking import last

BEGIN = ("begin", 100, 100, 500, 500)
INNER = ("scroller", 0, 0, 0, 20, 20, 90, 90)


def text(*letters, ends=None):
    """What text answers when these letters (a text, a scroller, a y, an x) are chosen, or those between the ends."""
    told = []
    for number, (signs, scroller, y, x) in enumerate(letters):
        told.append(("letter", number, scroller, x, y, 10, 10 + number, 0, 0, signs))
    first, behind = ends if ends is not None else (0, len(letters))
    choice = ("choose", first, 0, behind - 1, len(letters[behind - 1][0]))
    return last(BEGIN, INNER, *told, choice, ("text",))


def codes(signs):
    return [len(signs)] + [ord(sign) for sign in signs]


class NothingChosen(unittest.TestCase):
    def test_at_first(self):
        self.assertEqual(last(BEGIN, ("text",)), [0])
        self.assertEqual(last(BEGIN, ("letter", 1, 0, 0, 0, 1, 1, 0, 0, "a"), ("text",)), [0])

    def test_a_choice_of_none(self):
        letter = ("letter", 1, 0, 0, 0, 1, 1, 0, 0, "a")
        self.assertEqual(last(BEGIN, letter, ("choose", 1, 1, 1, 1), ("text",)), [0])
        self.assertEqual(last(BEGIN, letter, ("choose", 1, 0, 1, 1), ("choose", 1, 0, 1, 0), ("text",)), [0])


class Chosen(unittest.TestCase):
    def test_one_letter(self):
        self.assertEqual(text(("a", 0, 0, 0)), codes("a"))
        self.assertEqual(text(("abcdefgh", 0, 0, 0)), codes("abcdefgh"))

    def test_in_the_order_in_which_they_are_read(self):
        self.assertEqual(text(("ab", 0, 0, 50), ("c", 0, 0, 20), ("de", 0, 0, 0)), codes("abcde"))

    def test_only_what_is_chosen(self):
        letters = [("a", 0, 0, 0), ("b", 0, 9, 0), ("c", 0, 9, 0), ("d", 0, 0, 0)]
        self.assertEqual(text(*letters, ends=(1, 3)), codes("bc"))
        self.assertEqual(text(*letters, ends=(0, 2)), codes("a\nb"))
        self.assertEqual(text(*letters, ends=(2, 4)), codes("c\nd"))

    def test_any_code_points(self):
        signs = [0, 10, 13, 55295, 57344, 65536, 1114111]
        self.assertEqual(text((signs, 0, 0, 0)), [7] + signs)

    def test_backwards_changes_nothing(self):
        letter = ("letter", 1, 0, 0, 0, 1, 1, 0, 1, "abc")
        self.assertEqual(last(BEGIN, letter, ("choose", 1, 0, 1, 3), ("text",)), codes("abc"))

    def test_other_items_between_change_nothing(self):
        calls = [
            BEGIN,
            ("letter", 1, 0, 0, 0, 1, 1, 0, 0, "a"),
            ("item", 1, 0, 0, 50, 1, 1, 1, -1),
            ("letter", 1, 0, 0, 0, 1, 1, 1, 0, "b"),
            ("choose", 1, 0, 1, 2),
            ("text",),
        ]
        self.assertEqual(last(*calls), codes("ab"))


class Lines(unittest.TestCase):
    def test_a_10_between_letters_of_another_y(self):
        self.assertEqual(text(("ab", 0, 0, 0), ("c", 0, 1, 0), ("d", 0, 0, 0)), codes("ab\nc\nd"))

    def test_a_10_between_letters_of_another_scroller(self):
        self.assertEqual(text(("a", 0, 0, 0), ("b", 1, 0, 0), ("c", 1, 0, 0), ("d", 0, 0, 0)), codes("a\nbc\nd"))

    def test_one_10_where_both_are_others(self):
        self.assertEqual(text(("a", 0, 0, 0), ("b", 1, 5, 0)), codes("a\nb"))

    def test_none_for_another_x_height_or_node_or_a_gap(self):
        self.assertEqual(text(("a", 0, 0, 0), ("b", 0, 0, 80), ("c", 0, 0, 5)), codes("abc"))

    def test_a_10_of_a_letter_is_no_line(self):
        self.assertEqual(text(("\n", 0, 0, 0), ("\n", 0, 0, 0), ("\n", 0, 7, 0)), codes("\n\n\n\n"))

    def test_scrolling_changes_nothing(self):
        calls = [
            BEGIN,
            INNER,
            ("letter", 1, 0, 0, 0, 1, 1, 0, 0, "a"),
            ("letter", 1, 1, 0, 7, 1, 1, 1, 0, "b"),
            ("scroll", 1, 0, 7),
            ("choose", 1, 0, 1, 2),
            ("text",),
        ]
        self.assertEqual(last(*calls), codes("a\nb"))

    def test_as_many_as_there_are_letters(self):
        letters = [("letter", 1, 0, 0, k, 1, 1, 8 * k, 0, "abcdefgh") for k in range(390)]
        found = last(BEGIN, *letters, ("choose", 1, 0, 1, 8 * 390), ("text",))
        self.assertEqual(found, codes("\n".join(["abcdefgh"] * 390)))


if __name__ == "__main__":
    unittest.main()
