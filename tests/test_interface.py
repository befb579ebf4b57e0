"""hitpage.pages.answers: how calls are handed in and answers given back."""

import unittest

import hitpage.pages
from asking import written
from hitpage.pages import answers

CALLS = [
    ("begin", 100, 100, 500, 500),
    ("scroller", 0, 10, 10, 50, 50, 90, 90),
    ("item", 6, 0, 0, 0, 90, 90, 1, 3),
    ("letter", 7, 1, 1, 2, 10, 12, 4, 0, "ab"),
    ("letter", 7, 1, 11, 2, 10, 12, 6, 1, "c"),
    ("letter", 7, 1, 11, 2, 10, 12, 6, 1, ""),
    ("hit", 12, 13),
    ("hit", 99, 99),
    ("near", 0, 0),
    ("caret", 7, 7),
    ("choose", 7, 7, 7, 4),
    ("choose", 7, 7, 7, 5),
    ("chosen",),
]
ANSWERS = [
    1, 0,
    1, 1,
    1, 0,
    1, 1,
    1, 2,
    1, -8,
    6, 0, 1, 7, 1, 1, 4,
    1, -3,
    4, 0, 1, 7, 4,
    4, 0, 21, 12, 12,
    1, 2,
    1, -3,
    2, 2, 1,
]


class Interface(unittest.TestCase):
    def test_calls_stand_in_one_list(self):
        self.assertEqual(written(CALLS[:1] + CALLS[3:4]), [1, 100, 100, 500, 500, 4, 7, 1, 1, 2, 10, 12, 4, 0, 2, 97, 98])
        self.assertEqual(hitpage.pages.answers([1, 2, 3, 4, 5, 9]), [1, 0, 2, 0, 0])
        self.assertEqual(hitpage.pages.answers([1, 2, 3, 4, -5]), [1, -8])

    def test_each_answer_stands_behind_its_length(self):
        self.assertEqual(answers(written(CALLS)), ANSWERS)

    def test_plain_numbers_in_a_list_are_given_back(self):
        given = answers(written(CALLS))
        self.assertIs(type(given), list)
        self.assertEqual({type(number) for number in given}, {int})

    def test_what_is_handed_in_is_not_changed(self):
        calls = written(CALLS)
        before = list(calls)
        given = answers(calls)
        self.assertEqual(calls, before)
        given.clear()
        self.assertEqual(calls, before)

    def test_what_is_handed_in_is_not_changed_for_a_while_either(self):
        class Watched(list):
            def changed(self, *anything):
                raise AssertionError("it is changed")

            append = extend = insert = pop = remove = clear = sort = reverse = changed
            __setitem__ = __delitem__ = __iadd__ = __imul__ = changed

        self.assertEqual(answers(Watched(written(CALLS))), ANSWERS)

    def test_nothing_is_kept_from_one_time_to_the_next(self):
        answers(written(CALLS))
        # Were a page kept, its view and letters would still be there behind a refused begin.
        later = written([
            ("begin", -1, 0, 0, 0),
            ("chosen",),
            ("near", 0, 0),
            ("hit", 12, 13),
            ("caret", 7, 4),
            ("scroller", 1, 0, 0, 1, 1, 1, 1),
            ("scroller", 0, 0, 0, 1, 1, 1, 1),
            ("item", 1, 0, 0, 0, 1, 1, 1, -1),
        ])
        self.assertEqual(answers(later), [1, -8, 2, 0, 0, 1, -3, 1, -3, 1, -3, 1, -8, 1, 1, 1, 0])
        self.assertEqual(answers(written(CALLS)), ANSWERS)

    def test_an_answer_changed_by_who_got_it_changes_no_later_one(self):
        for calls in ([1, 2, 3, 4, -5], written(CALLS)):
            given = answers(calls)
            whole = list(given)
            for place in range(len(given)):
                given[place] = 99
            self.assertEqual(answers(calls), whole)

    def test_400_calls(self):
        letters = [("letter", 1, 0, k, 0, 1, 1, k, 0, [97] * 8) for k in range(198)]
        asked = [("near", k, 0) for k in range(199)]
        given = answers(written([("begin", 9, 9, 9, 9)] + letters + asked + [("choose", 1, 0, 1, 205), ("chosen",)]))
        self.assertEqual(given[-4:], [198, 2, 198, 0])
        self.assertEqual(len(given), 2 + 198 * 2 + 199 * 5 + 2 + 3)


if __name__ == "__main__":
    unittest.main()
