"""hitpage.pages.answers: how calls are handed in and answers given back."""

import unittest

import hitpage.pages
from asking import written
from hitpage.pages import answers

CALLS = [
    ("begin", 100, 100, 500, 500),
    ("scroller", 0, 10, 10, 50, 50, 90, 90),
    ("item", 6, 0, 0, 0, 90, 90, 1, 3),
    ("letter", 7, 1, 1, 2, 10, 12, 4, 0, "ab"),
    ("letter", 7, 1, 11, 2, 10, 12, 6, 1, "c"),
    ("letter", 7, 1, 11, 2, 10, 12, 6, 1, ""),
    ("hit", 12, 13),
    ("hit", 99, 99),
    ("near", 0, 0),
    ("caret", 7, 7),
    ("choose", 7, 7, 7, 4),
    ("choose", 7, 7, 7, 5),
    ("chosen",),
    ("rectangles",),
    ("text",),
    ("scroll", 1, 3, 450),
    ("scrolled", 1),
    ("scrolled", 2),
    ("show", 0),
    ("show", 1),
    ("seen", 1),
    ("seen", 3),
    ("find", 0, 1, "ab"),
    ("find", 1, 0, "C"),
    ("find", 0, 0, "C"),
    ("find", 0, 0, [97] * 300),
    ("find", 0, 0, []),
    ("turn", 1),
    ("focus", 1),
    ("focus", -1),
]
ANSWERS = [
    1, 0,
    1, 1,
    1, 0,
    1, 1,
    1, 2,
    1, -8,
    6, 0, 1, 7, 1, 1, 4,
    1, -3,
    4, 0, 1, 7, 4,
    4, 0, 21, 12, 12,
    1, 2,
    1, -3,
    2, 2, 1,
    5, 1, 11, 12, 20, 12,
    4, 3, 97, 98, 99,
    3, 0, 3, 440,
    3, 0, 3, 40,
    1, -8,
    2, 0, 1,
    2, 0, 1,
    5, 0, 10, 10, 10, 12,
    1, -8,
    1, 2,
    1, 1,
    1, 0,
    1, -8,
    1, -8,
    3, 0, 0, 6,
    1, -3,
    1, 0,
]


class Interface(unittest.TestCase):
    def test_calls_stand_in_one_list(self):
        self.assertEqual(written(CALLS[:1] + CALLS[3:4]), [1, 100, 100, 500, 500, 4, 7, 1, 1, 2, 10, 12, 4, 0, 2, 97, 98])
        self.assertEqual(hitpage.pages.answers([1, 2, 3, 4, 5, 9]), [1, 0, 2, 0, 0])
        self.assertEqual(hitpage.pages.answers([1, 2, 3, 4, -5]), [1, -8])

    def test_each_answer_stands_behind_its_length(self):
        self.assertEqual(answers(written(CALLS)), ANSWERS)

    def test_plain_numbers_in_a_list_are_given_back(self):
        given = answers(written(CALLS))
        self.assertIs(type(given), list)
        self.assertEqual({type(number) for number in given}, {int})

    def test_what_is_handed_in_is_not_changed(self):
        calls = written(CALLS)
        before = list(calls)
        given = answers(calls)
        self.assertEqual(calls, before)
        given.clear()
        self.assertEqual(calls, before)

    def test_what_is_handed_in_is_not_changed_for_a_while_either(self):
        class Watched(list):
            def changed(self, *anything):
                raise AssertionError("it is changed")

            append = extend = insert = pop = remove = clear = sort = reverse = changed
            __setitem__ = __delitem__ = __iadd__ = __imul__ = changed

        self.assertEqual(answers(Watched(written(CALLS))), ANSWERS)

    def test_nothing_is_kept_from_one_time_to_the_next(self):
        answers(written(CALLS))
        # Were a page kept, its view and letters would still be there behind a refused begin.
        later = written([
            ("begin", -1, 0, 0, 0),
            ("chosen",),
            ("near", 0, 0),
            ("hit", 12, 13),
            ("caret", 7, 4),
            ("scroller", 1, 0, 0, 1, 1, 1, 1),
            ("scroller", 0, 0, 0, 1, 1, 1, 1),
            ("item", 1, 0, 0, 0, 1, 1, 1, -1),
            ("scrolled", 0),
            ("scrolled", 1),
            ("text",),
            ("rectangles",),
            ("find", 0, 0, "c"),
            ("turn", 0),
        ])
        self.assertEqual(
            answers(later),
            [1, -8, 2, 0, 0, 1, -3, 1, -3, 1, -3, 1, -8, 1, 1, 1, 0, 3, 0, 0, 0, 3, 0, 0, 0, 1, 0, 1, 0, 1, 0, 1, -3],
        )
        self.assertEqual(answers(written(CALLS)), ANSWERS)

    def test_an_answer_changed_by_who_got_it_changes_no_later_one(self):
        for calls in ([1, 2, 3, 4, -5], written(CALLS)):
            given = answers(calls)
            whole = list(given)
            for place in range(len(given)):
                given[place] = 99
            self.assertEqual(answers(calls), whole)

    def test_400_calls(self):
        letters = [("letter", 1, 0, k, 0, 1, 1, k, 0, [97] * 8) for k in range(198)]
        asked = [("near", k, 0) for k in range(199)]
        given = answers(written([("begin", 9, 9, 9, 9)] + letters + asked + [("choose", 1, 0, 1, 205), ("chosen",)]))
        self.assertEqual(given[-4:], [198, 2, 198, 0])
        self.assertEqual(len(given), 2 + 198 * 2 + 199 * 5 + 2 + 3)

    def test_find_is_read_with_fold_and_back_before_its_text(self):
        page = [1, 9, 9, 9, 9] + [4, 1, 0, 0, 0, 1, 1, 0, 0, 1, 65] + [4, 1, 0, 0, 0, 1, 1, 1, 0, 1, 97]
        told = [1, 0, 1, 0, 1, 1]
        self.assertEqual(answers(page + [16, 1, 0, 1, 97, 9]), told + [1, 1, 2, 1, 0])
        self.assertEqual(answers(page + [16, 0, 1, 1, 65, 9]), told + [1, 1, 2, 1, 0])
        self.assertEqual(answers(page + [16, 1, 1, 1, 65, 9]), told + [1, 1, 2, 1, 1])
        self.assertEqual(answers(page + [16, 0, 0, 2, 65, 97, 9]), told + [1, 1, 2, 2, 0])
        self.assertEqual(answers(page + [16, 0, 0, 0, 9]), told + [1, -8, 2, 0, 0])

    def test_a_refusal_is_answered_alone(self):
        wrongs = [[12, 1, 0, 0], [13, 1], [14, 0], [15, 0], [16, 0, 0, 0], [16, 2, 0, 1, 97], [17, 2], [18, 0]]
        for wrong in wrongs:
            self.assertEqual(answers([1, 9, 9, 9, 9] + wrong + [10, 11]), [1, 0, 1, -8, 1, 0, 1, 0], wrong)
        self.assertEqual(answers([1, 9, 9, 9, 9, 17, 0]), [1, 0, 1, -3])

    def test_400_calls_with_30000_numbers(self):
        letters = [("letter", 1, 0, k, 0, 1, 1, 8 * k, 0, [97] * 8) for k in range(300)]
        finds = [("find", 0, k % 2, [97] * 256) for k in range(93)]
        asked = [("rectangles",), ("text",), ("turn", 0), ("scroll", 0, 1, 1), ("show", 299), ("seen", 299)]
        calls = written([("begin", 9, 9, 9, 9)] + letters + finds + asked)
        self.assertEqual(len(letters) + len(finds) + len(asked) + 1, 400)
        self.assertTrue(29500 < len(calls) <= 30000)
        given = answers(calls)
        # The first of all, then round: the last of all, the first of all, and so on.
        self.assertEqual(given[2 + 600:2 + 600 + 2 * 93], [1, 1] + [1, 2] * 92)
        self.assertEqual(given[-11:], [1, -3, 3, 0, 0, 0, 2, 0, 0, 1, -3])

    def test_rectangles_and_text_of_all_that_400_calls_can_tell(self):
        letters = [("letter", 1, 0, 0, k, 1, 1, 8 * k, 0, [97] * 8) for k in range(396)]
        calls = [("begin", 9, 9, 9, 9)] + letters + [("choose", 1, 0, 1, 8 * 396), ("rectangles",), ("text",)]
        given = answers(written(calls))
        self.assertEqual(given[2 + 2 * 396:][:4], [1, 396, 1 + 4 * 396, 396])
        self.assertEqual(given[-9 * 396 - 1:][:3], [9 * 396, 9 * 396 - 1, 97])


if __name__ == "__main__":
    unittest.main()
