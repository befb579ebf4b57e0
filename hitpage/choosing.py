"""The calls that ask of the ends of letters: caret, choose, chosen."""

from hitpage.limits import NONE_THERE
from hitpage.screen import Screen


def caret(page, node, offset):
    end = find_end(page, node, offset)
    if end is None:
        return [NONE_THERE]
    letter = page.letter_at(end[0])
    side = letter.first_side() if end[1] else letter.second_side()
    box = Screen(page).box_of(letter)
    return [0, box.x + side, box.y, box.height]


def choose(page, node, offset, other_node, other_offset):
    end = find_end(page, node, offset)
    other_end = find_end(page, other_node, other_offset)
    if end is None or other_end is None:
        return [NONE_THERE]
    place = place_of(end)
    other_place = place_of(other_end)
    page.choice = (min(place, other_place), max(place, other_place))
    return [how_many(page.choice)]


def chosen(page):
    if page.choice is None or how_many(page.choice) == 0:
        return [0, 0]
    return [how_many(page.choice), page.letter_numbers[page.choice[0]]]


# The letter that an end belongs to, by its place among the letters, and whether it is that letter's first end.
def find_end(page, node, offset):
    second = None
    for k in range(len(page.letter_numbers)):
        letter = page.letter_at(k)
        if letter.node != node:
            continue
        if letter.first_end() == offset:
            return (k, True)
        if second is None and letter.second_end() == offset:
            second = (k, False)
    return second


# A first end stands before its letter, a second one behind it.
def place_of(end):
    return end[0] if end[1] else end[0] + 1


def how_many(choice):
    return choice[1] - choice[0]
