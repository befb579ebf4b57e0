"""The calls on one page, handed in as one list of whole numbers, and what is answered."""

from hitpage.choosing import caret, choose, chosen
from hitpage.kept import Box, Page
from hitpage.pointing import hit, near
from hitpage.telling import begin, tell_item, tell_letter, tell_scroller


def call_begin(page, numbers, text):
    return begin(page, numbers[0], numbers[1], numbers[2], numbers[3])


def call_scroller(page, numbers, text):
    return tell_scroller(page, numbers[0], box_from(numbers, 1), numbers[5], numbers[6])


def call_item(page, numbers, text):
    return tell_item(page, numbers[0], numbers[1], box_from(numbers, 2), numbers[6], numbers[7])


def call_letter(page, numbers, text):
    return tell_letter(page, numbers[0], numbers[1], box_from(numbers, 2), numbers[6], numbers[7], text)


def call_hit(page, numbers, text):
    return hit(page, numbers[0], numbers[1])


def call_near(page, numbers, text):
    return near(page, numbers[0], numbers[1])


def call_caret(page, numbers, text):
    return caret(page, numbers[0], numbers[1])


def call_choose(page, numbers, text):
    return choose(page, numbers[0], numbers[1], numbers[2], numbers[3])


def call_chosen(page, numbers, text):
    return chosen(page)


def box_from(numbers, at):
    return Box(numbers[at], numbers[at + 1], numbers[at + 2], numbers[at + 3])


# Of each call: how many whole numbers it has, whether a text stands behind them, what answers it.
CALLS = {
    1: (4, False, call_begin),
    2: (7, False, call_scroller),
    3: (8, False, call_item),
    4: (8, True, call_letter),
    5: (2, False, call_hit),
    6: (2, False, call_near),
    7: (2, False, call_caret),
    8: (4, False, call_choose),
    9: (0, False, call_chosen),
}


def answers(calls):
    page = Page()
    given = []
    at = 0
    while at < len(calls):
        call = CALLS[calls[at]]
        row_at = at + 1 + call[0]
        # Slices are copies: nothing of what is handed in is kept or changed.
        numbers = calls[at + 1:row_at]
        text = []
        at = row_at
        if call[1]:
            at = row_at + 1 + calls[row_at]
            text = calls[row_at + 1:at]
        answer = call[2](page, numbers, text)
        given.append(len(answer))
        given.extend(answer)
    return given
