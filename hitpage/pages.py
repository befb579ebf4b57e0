"""The calls on one page, handed in as one list of whole numbers, and what is answered."""

from hitpage.choosing import caret, choose, chosen
from hitpage.finding import find_text
from hitpage.kept import Box, Page
from hitpage.marking import chosen_text, rectangles
from hitpage.pointing import hit, near
from hitpage.scrolling import scroll, scrolled, seen, show
from hitpage.telling import begin, tell_item, tell_letter, tell_scroller
from hitpage.turning import set_focus, turn_focus


def call_begin(page, numbers, text):
    return begin(page, numbers[0], numbers[1], numbers[2], numbers[3])


def call_scroller(page, numbers, text):
    return tell_scroller(page, numbers[0], box_from(numbers, 1), numbers[5], numbers[6])


def call_item(page, numbers, text):
    return tell_item(page, numbers[0], numbers[1], box_from(numbers, 2), numbers[6], numbers[7])


def call_letter(page, numbers, text):
    return tell_letter(page, numbers[0], numbers[1], box_from(numbers, 2), numbers[6], numbers[7], text)


def call_hit(page, numbers, text):
    return hit(page, numbers[0], numbers[1])


def call_near(page, numbers, text):
    return near(page, numbers[0], numbers[1])


def call_caret(page, numbers, text):
    return caret(page, numbers[0], numbers[1])


def call_choose(page, numbers, text):
    return choose(page, numbers[0], numbers[1], numbers[2], numbers[3])


def call_chosen(page, numbers, text):
    return chosen(page)


def call_rectangles(page, numbers, text):
    return rectangles(page)


def call_text(page, numbers, text):
    return chosen_text(page)


def call_scroll(page, numbers, text):
    return scroll(page, numbers[0], numbers[1], numbers[2])


def call_scrolled(page, numbers, text):
    return scrolled(page, numbers[0])


def call_show(page, numbers, text):
    return show(page, numbers[0])


def call_seen(page, numbers, text):
    return seen(page, numbers[0])


def call_find(page, numbers, text):
    return find_text(page, text, numbers[0], numbers[1])


def call_turn(page, numbers, text):
    return turn_focus(page, numbers[0])


def call_focus(page, numbers, text):
    return set_focus(page, numbers[0])


def box_from(numbers, at):
    return Box(numbers[at], numbers[at + 1], numbers[at + 2], numbers[at + 3])


# Of each call: how many whole numbers it has, whether a text stands behind them, what answers it.
CALLS = {
    1: (4, False, call_begin),
    2: (7, False, call_scroller),
    3: (8, False, call_item),
    4: (8, True, call_letter),
    5: (2, False, call_hit),
    6: (2, False, call_near),
    7: (2, False, call_caret),
    8: (4, False, call_choose),
    9: (0, False, call_chosen),
    10: (0, False, call_rectangles),
    11: (0, False, call_text),
    12: (3, False, call_scroll),
    13: (1, False, call_scrolled),
    14: (1, False, call_show),
    15: (1, False, call_seen),
    16: (2, True, call_find),
    17: (1, False, call_turn),
    18: (1, False, call_focus),
}


def answers(calls):
    page = Page()
    given = []
    at = 0
    while at < len(calls):
        call = CALLS[calls[at]]
        row_at = at + 1 + call[0]
        # Slices are copies: nothing of what is handed in is kept or changed.
        numbers = calls[at + 1:row_at]
        text = []
        at = row_at
        if call[1]:
            at = row_at + 1 + calls[row_at]
            text = calls[row_at + 1:at]
        answer = call[2](page, numbers, text)
        given.append(len(answer))
        given.extend(answer)
    return given
