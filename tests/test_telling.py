"""Points 2 to 4: scroller, item, letter."""

import unittest

from asking import FAR, HIGHEST, LOWEST, ask, last
from hitpage.kept import Box, Item, Page
from hitpage.telling import tell_item, tell_letter

BEGIN = ("begin", 100, 100, 100, 100)
PLACE = ((-FAR, True), (FAR, True), (-FAR - 1, False), (FAR + 1, False), (LOWEST, False), (HIGHEST, False))
SIZE = ((0, True), (FAR, True), (-1, False), (FAR + 1, False), (LOWEST, False), (HIGHEST, False))
OFFSET = ((0, True), (FAR, True), (FAR + 1, True), (HIGHEST - 1, True), (HIGHEST, True), (-1, False), (LOWEST, False))
FLAG = ((0, True), (1, True), (-1, False), (2, False), (LOWEST, False), (HIGHEST, False))
TURN = ((-1, True), (0, True), (1000, True), (-2, False), (1001, False), (LOWEST, False), (HIGHEST, False))
ANY = ((LOWEST, True), (0, True), (HIGHEST, True))
# There are the scrollers 0 and 1 when these are asked.
SCROLLER = ((0, True), (1, True), (-1, False), (2, False), (LOWEST, False), (HIGHEST, False))


class Ranges(unittest.TestCase):
    def look(self, call, ranges, number):
        for place, numbers in enumerate(ranges):
            for told, granted in numbers:
                changed = list(call)
                changed[place + 1] = told
                found = last(BEGIN, ("scroller", 0, 1, 1, 1, 1, 1, 1), tuple(changed))
                self.assertEqual(found, [number if granted else -8], changed)

    def test_scroller(self):
        ranges = (SCROLLER, PLACE, PLACE, SIZE, SIZE, SIZE, SIZE)
        self.look(("scroller", 0, 7, 7, 7, 7, 7, 7), ranges, 2)

    def test_item(self):
        ranges = (ANY, SCROLLER, PLACE, PLACE, SIZE, SIZE, FLAG, TURN)
        self.look(("item", 7, 0, 7, 7, 7, 7, 1, 7), ranges, 0)

    def test_letter(self):
        ranges = (ANY, SCROLLER, PLACE, PLACE, SIZE, SIZE, OFFSET, FLAG)
        self.look(("letter", 7, 0, 7, 7, 7, 7, 7, 1, "a"), ranges, 0)


class Scrollers(unittest.TestCase):
    def test_are_numbered_from_1_on(self):
        told = [("scroller", outer, 1, 2, 3, 4, 5, 6) for outer in (0, 1, 0, 3)]
        self.assertEqual(ask(BEGIN, *told), [[0], [1], [2], [3], [4]])

    def test_one_cannot_lie_in_itself(self):
        self.assertEqual(last(BEGIN, ("scroller", 1, 0, 0, 1, 1, 1, 1)), [-8])

    def test_a_refused_one_takes_no_number(self):
        calls = [
            BEGIN,
            ("scroller", 0, 0, 0, -1, 1, 1, 1),
            ("item", 1, 1, 0, 0, 1, 1, 1, -1),
            ("scroller", 0, 0, 0, 1, 1, 1, 1),
        ]
        self.assertEqual(ask(*calls)[1:], [[-8], [-8], [1]])

    def test_there_are_64_at_most(self):
        told = [("scroller", 0, 0, 0, 1, 1, 1, 1)] * 63
        found = ask(
            BEGIN,
            *told,
            ("scroller", 0, 0, 0, 1, 1, 1, 1),
            ("item", 1, 64, 0, 0, 1, 1, 1, -1),
            ("item", 1, 63, 0, 0, 1, 1, 1, -1),
        )
        self.assertEqual(found, [[0]] + [[number] for number in range(1, 64)] + [[-6], [-8], [0]])

    def test_not_in_range_comes_before_full(self):
        told = [("scroller", 0, 0, 0, 1, 1, 1, 1)] * 63
        for wrong in (
            ("scroller", 64, 0, 0, 1, 1, 1, 1),
            ("scroller", -1, 0, 0, 1, 1, 1, 1),
            ("scroller", 0, FAR + 1, 0, 1, 1, 1, 1),
            ("scroller", 0, 0, 0, 1, 1, 1, -1),
        ):
            self.assertEqual(last(BEGIN, *told, wrong), [-8], wrong)

    def test_begin_makes_room_again(self):
        told = [("scroller", 0, 0, 0, 1, 1, 1, 1)] * 63
        self.assertEqual(last(BEGIN, *told, BEGIN, ("scroller", 0, 0, 0, 1, 1, 1, 1)), [1])


class ItemsAndLetters(unittest.TestCase):
    def test_are_numbered_together(self):
        item = ("item", 1, 0, 0, 0, 1, 1, 1, -1)
        letter = ("letter", 1, 0, 0, 0, 1, 1, 0, 0, "a")
        self.assertEqual(ask(BEGIN, item, letter, letter, item), [[0], [0], [1], [2], [3]])

    def test_refused_ones_take_no_number(self):
        calls = [
            BEGIN,
            ("item", 1, 0, 0, 0, 50, 50, 2, -1),
            ("letter", 1, 0, 0, 0, 50, 50, 0, 2, "a"),
            ("hit", 1, 1),
            ("near", 1, 1),
            ("item", 1, 0, 0, 0, 1, 1, 1, -1),
        ]
        self.assertEqual(ask(*calls)[1:], [[-8], [-8], [-3], [-3], [0]])

    def test_a_letter_is_told_with_all_that_is_answered_of_it(self):
        letter = ("letter", -5, 0, 10, 20, 6, 8, 40, 0, "abc")
        self.assertEqual(
            ask(BEGIN, letter, ("hit", 12, 21), ("caret", -5, 40), ("caret", -5, 43), ("caret", -5, 41))[2:],
            [[0, 0, -5, 2, 1, 40], [0, 10, 20, 8], [0, 16, 20, 8], [-3]],
        )

    def test_the_ends_of_high_offsets(self):
        for offset in (FAR, FAR + 1, HIGHEST - 8):
            letter = ("letter", 1, 0, 0, 0, 6, 8, offset, 0, "abcdefgh")
            self.assertEqual(last(BEGIN, letter, ("caret", 1, offset)), [0, 0, 0, 8], offset)
            self.assertEqual(last(BEGIN, letter, ("caret", 1, offset + 8)), [0, 6, 0, 8], offset)
            self.assertEqual(last(BEGIN, letter, ("choose", 1, offset, 1, offset + 8)), [1], offset)

    def test_the_end_of_the_highest_offset_is_exact(self):
        for backwards, point in ((0, 5), (1, 0)):
            letter = ("letter", 1, 0, 0, 0, 6, 8, HIGHEST, backwards, "abcdefgh")
            self.assertEqual(last(BEGIN, letter, ("hit", point, 0)), [0, 0, 1, point, 0, HIGHEST + 8])
            self.assertEqual(last(BEGIN, letter, ("near", point, 0)), [0, 0, 1, HIGHEST + 8])

    def test_a_letter_is_open_and_without_a_turn(self):
        page = Page()
        self.assertEqual(tell_letter(page, 1, 0, Box(0, 0, 1, 1), 0, 0, [97]), [0])
        self.assertEqual((page.item_list[0].can_hit, page.item_list[0].turn), (True, -1))

    def test_full_behind_65536(self):
        page = Page()
        box = Box(0, 0, 1, 1)
        page.item_list = [Item(1, 0, box, True, -1)] * 65535
        self.assertEqual(tell_item(page, 1, 0, box, 1, -1), [65535])
        self.assertEqual(tell_item(page, 1, 0, box, 1, -1), [-6])
        self.assertEqual(tell_letter(page, 1, 0, box, 0, 0, [97]), [-6])
        self.assertEqual(tell_item(page, 1, 1, box, 1, -1), [-8])
        self.assertEqual(tell_letter(page, 1, 0, box, 0, 0, []), [-8])
        self.assertEqual((len(page.item_list), page.letter_numbers), (65536, []))


class Texts(unittest.TestCase):
    def answer(self, text):
        return last(BEGIN, ("letter", 1, 0, 0, 0, 1, 1, 0, 0, text))

    def test_have_1_to_8_code_points(self):
        for length, answer in ((0, -8), (1, 0), (2, 0), (7, 0), (8, 0), (9, -8), (16, -8)):
            self.assertEqual(self.answer([97] * length), [answer], length)

    def test_hold_code_points_alone(self):
        granted = (0, 10, 97, 55295, 57344, 65536, 1114111)
        refused = (55296, 56000, 57343, 1114112, HIGHEST)
        for number in granted:
            self.assertEqual(self.answer([number]), [0], number)
        for number in refused:
            self.assertEqual(self.answer([number]), [-8], number)

    def test_are_looked_through_to_their_end(self):
        self.assertEqual(self.answer([97] * 7 + [55296]), [-8])
        self.assertEqual(self.answer([57343] + [97] * 7), [-8])
        self.assertEqual(self.answer([97, 1114112, 97]), [-8])

    def test_what_stands_behind_a_refused_one_is_read_rightly(self):
        for text in ([], [97] * 9, [5] * 16, [1114112]):
            calls = (BEGIN, ("letter", 1, 0, 0, 0, 1, 1, 0, 0, text), ("chosen",), ("near", 0, 0))
            self.assertEqual(ask(*calls)[1:], [[-8], [0, 0], [-3]], text)


if __name__ == "__main__":
    unittest.main()
