"""Point 16: find."""

import unittest

from asking import HIGHEST, LOWEST, ask, last

BEGIN = ("begin", 100, 100, 500, 500)


def told(*texts):
    """Letters with these texts, the offset of each being ten times its number."""
    return [("letter", 1, 0, 0, 0, 5, 5, 10 * number, 0, text) for number, text in enumerate(texts)]


def find(text, fold=0, back=0):
    return ("find", fold, back, text)


def choose(first, behind):
    """Chooses the letters from one on to before another."""
    return ("choose", 1, 10 * first, 1, 10 * behind)


def look(letters, *calls):
    """What the calls behind the letters answer."""
    return ask(BEGIN, *told(*letters), *calls)[1 + len(letters):]


def found(letters, *calls):
    """What the last of the calls answers, and what is chosen then."""
    return look(letters, *calls, ("chosen",))[-2:]


class WithoutAChoice(unittest.TestCase):
    def test_the_first_from_the_first_letter_on(self):
        self.assertEqual(found("abcabc", find("bc")), [[1], [2, 1]])
        self.assertEqual(found("abcabc", find("a")), [[1], [1, 0]])
        self.assertEqual(found("abcabc", find("abcabc")), [[1], [6, 0]])
        self.assertEqual(found("xxabc", find("abc")), [[1], [3, 2]])

    def test_back_the_last_from_the_last_one_s_end(self):
        self.assertEqual(found("abcabc", find("bc", back=1)), [[1], [2, 4]])
        self.assertEqual(found("abcabc", find("ab", back=1)), [[1], [2, 3]])
        self.assertEqual(found("abcabc", find("abcabc", back=1)), [[1], [6, 0]])

    def test_none(self):
        for text in ("d", "ac", "abcabca", "cba", "\n"):
            for back in (0, 1):
                self.assertEqual(found("abcabc", find(text, back=back)), [[0], [0, 0]], text)

    def test_no_letters(self):
        self.assertEqual(found("", find("a")), [[0], [0, 0]])
        self.assertEqual(found("", find("a", back=1)), [[0], [0, 0]])
        self.assertEqual(last(BEGIN, ("item", 97, 0, 0, 0, 5, 5, 1, 0), find("a")), [0])

    def test_one_that_goes_over_into_itself(self):
        self.assertEqual(found("aaaa", find("aa")), [[1], [2, 0]])
        self.assertEqual(found("aaaa", find("aa", back=1)), [[1], [2, 2]])
        self.assertEqual(found("aabaab", find("aab")), [[1], [3, 0]])
        self.assertEqual(found("aaab", find("aab")), [[1], [3, 1]])


class WholeLetters(unittest.TestCase):
    def test_letters_of_several_code_points(self):
        letters = ["ab", "c", "def"]
        self.assertEqual(found(letters, find("ab")), [[1], [1, 0]])
        self.assertEqual(found(letters, find("abc")), [[1], [2, 0]])
        self.assertEqual(found(letters, find("cdef")), [[1], [2, 1]])
        self.assertEqual(found(letters, find("abcdef")), [[1], [3, 0]])

    def test_only_where_whole_letters_have_just_these(self):
        letters = ["ab", "c", "def"]
        for text in ("a", "b", "bc", "abcd", "cd", "cde", "bcdef", "de", "ef", "f"):
            for back in (0, 1):
                self.assertEqual(found(letters, find(text, back=back)), [[0], [0, 0]], text)

    def test_a_later_place_with_whole_letters(self):
        self.assertEqual(found(["ab", "a", "b", "abc"], find("a")), [[1], [1, 1]])
        self.assertEqual(found(["xa", "b", "a", "bx", "a", "b"], find("ab")), [[1], [2, 4]])
        self.assertEqual(found(["a", "b", "xa", "b", "a", "bx"], find("ab", back=1)), [[1], [2, 0]])

    def test_the_same_text_in_other_letters(self):
        letters = ["ab", "a", "b", "ab"]
        self.assertEqual(look(letters, *[find("ab"), ("chosen",)] * 4)[1::2], [[1, 0], [2, 1], [1, 3], [1, 0]])

    def test_letters_of_other_lines_scrollers_and_nodes_follow_one_another(self):
        calls = [
            BEGIN,
            ("scroller", 0, 0, 0, 5, 5, 5, 5),
            ("letter", 1, 0, 0, 0, 5, 5, 0, 0, "a"),
            ("item", 1, 0, 0, 0, 5, 5, 1, 0),
            ("letter", 2, 1, 90, 90, 5, 5, 0, 1, "b"),
            ("letter", 3, 0, 0, 50, 5, 5, 7, 0, "c"),
            find("abc"),
            ("chosen",),
            ("text",),
        ]
        self.assertEqual(ask(*calls)[-3:], [[1], [3, 0], [5, 97, 10, 98, 10, 99]])

    def test_the_10s_between_lines_are_not_found(self):
        letters = [("letter", 1, 0, 0, y, 5, 5, y, 0, sign) for y, sign in ((0, "a"), (9, "b"))]
        self.assertEqual(last(BEGIN, *letters, find("a\nb")), [0])
        self.assertEqual(last(BEGIN, *letters, find("\n")), [0])

    def test_a_10_that_is_a_letter_is_found(self):
        self.assertEqual(found("a\nb", find("\nb")), [[1], [2, 1]])

    def test_the_number_of_the_first_counts_all_items(self):
        item = ("item", 1, 0, 0, 0, 5, 5, 1, 0)
        self.assertEqual(ask(BEGIN, item, *told("a"), item, find("a"), ("chosen",))[-2:], [[1], [1, 1]])


class FromTheChoice(unittest.TestCase):
    def test_at_or_behind_where_it_ends(self):
        self.assertEqual(found("aaaaa", choose(0, 2), find("a")), [[1], [1, 2]])
        self.assertEqual(found("aaaaa", choose(1, 2), find("aa")), [[1], [2, 2]])
        self.assertEqual(found("abaab", choose(0, 2), find("ab")), [[1], [2, 3]])

    def test_back_at_or_before_where_it_begins(self):
        self.assertEqual(found("aaaaa", choose(2, 4), find("a", back=1)), [[1], [1, 1]])
        self.assertEqual(found("aaaaa", choose(2, 4), find("aa", back=1)), [[1], [2, 0]])
        self.assertEqual(found("abaab", choose(3, 4), find("ab", back=1)), [[1], [2, 0]])

    def test_round_to_the_first_of_all(self):
        self.assertEqual(found("abxxx", choose(2, 4), find("ab")), [[2], [2, 0]])
        self.assertEqual(found("abxabxx", choose(5, 6), find("ab")), [[2], [2, 0]])
        # One that begins within the choice comes too early.
        self.assertEqual(found("xabxx", choose(0, 2), find("ab")), [[2], [2, 1]])
        self.assertEqual(found("xabxab", choose(0, 2), find("ab")), [[1], [2, 4]])

    def test_round_to_the_last_of_all(self):
        self.assertEqual(found("xxxab", choose(1, 2), find("ab", back=1)), [[2], [2, 3]])
        self.assertEqual(found("xxabxab", choose(0, 1), find("ab", back=1)), [[2], [2, 5]])
        # One that ends within the choice comes too late.
        self.assertEqual(found("xabxx", choose(2, 4), find("ab", back=1)), [[2], [2, 1]])
        self.assertEqual(found("abxabx", choose(4, 5), find("ab", back=1)), [[1], [2, 0]])

    def test_the_only_one_is_found_again_round(self):
        self.assertEqual(look("xab", find("ab"), find("ab"), find("ab")), [[1], [2], [2]])
        self.assertEqual(look("xab", find("ab", back=1), find("ab", back=1)), [[1], [2]])

    def test_a_choice_of_none_is_where_it_was_made(self):
        for place in range(5):
            letters = "aaaaa"
            here = choose(place, place)
            self.assertEqual(found(letters, here, find("a")), [[1], [1, place]], place)
            back = [[1], [1, place - 1]] if place > 0 else [[2], [1, 4]]
            self.assertEqual(found(letters, here, find("a", back=1)), back, place)

    def test_a_choice_of_none_at_the_end(self):
        end = ("choose", 1, 21, 1, 21)
        self.assertEqual(found("aaa", end, find("a")), [[2], [1, 0]])
        self.assertEqual(found("aaa", end, find("a", back=1)), [[1], [1, 2]])

    def test_letters_that_are_told_later_stand_behind(self):
        later = ("letter", 1, 0, 0, 0, 5, 5, 90, 0, "a")
        self.assertEqual(found("ab", find("a"), later, find("a")), [[1], [1, 2]])
        self.assertEqual(found("ab", ("choose", 1, 11, 1, 11), later, find("a")), [[1], [1, 2]])
        # Without a choice one begins at the end as it is then.
        self.assertEqual(found("ab", find("x", back=1), later, find("a", back=1)), [[1], [1, 2]])

    def test_one_behind_another_and_round(self):
        calls = [find("ab"), ("chosen",)] * 4
        wanted = [[1], [2, 0], [1], [2, 3], [1], [2, 5], [2], [2, 0]]
        self.assertEqual(look("abxabab", *calls), wanted)

    def test_one_before_another_and_round(self):
        calls = [find("ab", back=1), ("chosen",)] * 4
        wanted = [[1], [2, 5], [1], [2, 3], [1], [2, 0], [2], [2, 5]]
        self.assertEqual(look("abxabab", *calls), wanted)

    def test_forwards_and_back(self):
        calls = [find("a"), ("chosen",), find("a"), ("chosen",), find("a", back=1), ("chosen",)]
        self.assertEqual(look("axaxa", *calls), [[1], [1, 0], [1], [1, 2], [1], [1, 0]])

    def test_from_the_end_of_a_found_one_not_from_within(self):
        calls = [find("aa"), ("chosen",)] * 3
        self.assertEqual(look("aaaaa", *calls), [[1], [2, 0], [1], [2, 2], [2], [2, 0]])
        calls = [find("aa", back=1), ("chosen",)] * 3
        self.assertEqual(look("aaaaa", *calls), [[1], [2, 3], [1], [2, 1], [2], [2, 3]])

    def test_0_changes_nothing(self):
        for back in (0, 1):
            self.assertEqual(found("abcab", choose(1, 3), find("x", back=back)), [[0], [2, 1]])
            calls = (choose(2, 2), find("x", back=back), find("c"))
            self.assertEqual(found("cabcc", *calls), [[1], [1, 3]])
            self.assertEqual(found("abab", find("x", back=back), find("ab")), [[1], [2, 0]])
            self.assertEqual(found("abab", find("x", back=back), find("ab", back=1)), [[1], [2, 2]])

    def test_what_is_found_is_chosen_for_all_that_asks(self):
        calls = [BEGIN, *told("a", "bc", "d"), find("bcd"), ("text",), ("rectangles",)]
        self.assertEqual(ask(*calls)[-2:], [[3, 98, 99, 100], [2, 0, 0, 5, 5, 0, 0, 5, 5]])

    def test_nothing_is_scrolled_and_the_focus_stays(self):
        far = ("letter", 1, 0, 400, 400, 5, 5, 0, 0, "a")
        items = [("item", node, 0, 0, 0, 5, 5, 1, 0) for node in (6, 7, 8)]
        calls = [BEGIN, *items, far, ("focus", 1), find("a"), ("scrolled", 0), ("turn", 0)]
        self.assertEqual(ask(*calls)[-3:], [[1], [0, 0, 0], [0, 2, 8]])


class Fold(unittest.TestCase):
    def test_capitals_count_as_small_ones_in_both(self):
        for text in ("AbZ", "aBz", "ABZ", "abz"):
            for letters in ("abz", "ABZ", "aBz"):
                self.assertEqual(found(letters, find(text, fold=1)), [[1], [3, 0]], (text, letters))

    def test_without_it_they_do_not(self):
        self.assertEqual(found("aB", find("ab")), [[0], [0, 0]])
        self.assertEqual(found("ab", find("aB")), [[0], [0, 0]])
        self.assertEqual(found("abAB", find("AB")), [[1], [2, 2]])
        self.assertEqual(found("abAB", find("AB", fold=1)), [[1], [2, 0]])
        self.assertEqual(found("ABab", find("AB", back=1)), [[1], [2, 0]])
        self.assertEqual(found("ABab", find("AB", fold=1, back=1)), [[1], [2, 2]])

    def test_all_of_a_to_z_and_none_else(self):
        for number in list(range(128)) + [192, 224, 913, 945, 1040, 1072]:
            other = number + 32
            answer = 1 if 65 <= number <= 90 else 0
            self.assertEqual(look([[number]], find([other], fold=1)), [[answer]], number)
            self.assertEqual(look([[other]], find([number], fold=1)), [[answer]], number)
            self.assertEqual(look([[number]], find([number], fold=1)), [[1]], number)

    def test_letters_of_several_code_points(self):
        self.assertEqual(found(["aB", "Cd"], find("AbcD", fold=1)), [[1], [2, 0]])
        self.assertEqual(found(["aB", "Cd"], find("Abc", fold=1)), [[0], [0, 0]])

    def test_it_changes_nothing_of_the_letters(self):
        self.assertEqual(look("AB", find("ab", fold=1), ("text",)), [[1], [2, 65, 66]])


class Refused(unittest.TestCase):
    def test_the_text_s_length(self):
        letters = [[97] * 8] * 40
        for length, answer in ((0, -8), (1, 0), (8, 1), (255, 0), (256, 1), (257, -8), (264, -8), (300, -8)):
            self.assertEqual(look(letters, find([97] * length)), [[answer]], length)

    def test_a_text_of_1_and_of_256_is_chosen(self):
        self.assertEqual(found("xa", find("a")), [[1], [1, 1]])
        self.assertEqual(found(["x"] + [[98] * 8] * 32, find([98] * 256)), [[1], [32, 1]])
        self.assertEqual(found("x" + "a" * 256 + "aa", find([97] * 256, back=1)), [[1], [256, 3]])

    def test_numbers_that_are_no_code_points(self):
        for number in (0, 10, 55295, 57344, 65536, 1114111):
            self.assertEqual(look([[number]], find([number])), [[1]], number)
        for number in (55296, 56000, 57343, 1114112, HIGHEST):
            self.assertEqual(look("a", find([number])), [[-8]], number)
            self.assertEqual(look("a", find([97] * 255 + [number])), [[-8]], number)
            self.assertEqual(look("a", find([number, 97])), [[-8]], number)

    def test_fold_and_back(self):
        for fold in (0, 1):
            for back in (0, 1):
                self.assertEqual(look("a", find("a", fold, back)), [[1]])
        for wrong in (-1, 2, LOWEST, HIGHEST):
            self.assertEqual(look("a", find("a", wrong, 0)), [[-8]], wrong)
            self.assertEqual(look("a", find("a", 0, wrong)), [[-8]], wrong)

    def test_nothing_has_changed_then(self):
        flags = [find("a", -1), find("a", 2), find("a", 0, -1), find("a", 0, 2)]
        for wrong in [find(""), find([97] * 257), find([97, 55296])] + flags:
            self.assertEqual(found("aaaa", choose(1, 3), wrong), [[-8], [2, 1]], wrong)
            self.assertEqual(look("aaaa", wrong, ("chosen",), find("a")), [[-8], [0, 0], [1]], wrong)

    def test_before_it_is_not_found(self):
        self.assertEqual(look("", find("")), [[-8]])
        self.assertEqual(look("", find("a", 2)), [[-8]])

    def test_what_stands_behind_a_refused_one_is_read_rightly(self):
        for text in ([], [5] * 257, [9] * 300, [1114112]):
            self.assertEqual(look("a", find(text), ("chosen",), find("a")), [[-8], [0, 0], [1]])


if __name__ == "__main__":
    unittest.main()
