"""The calls that ask of a point: hit, near."""

from hitpage.kept import Letter
from hitpage.limits import NONE_THERE, NOT_IN_RANGE, is_place
from hitpage.screen import Screen


def hit(page, x, y):
    if not (is_place(x) and is_place(y)):
        return [NOT_IN_RANGE]
    screen = Screen(page)
    # The later ones lie above, so the first that is met from behind is the topmost.
    for number in range(len(page.item_list) - 1, -1, -1):
        item = page.item_list[number]
        if is_hit(screen, item, x, y):
            box = screen.box_of(item)
            return hit_answer(number, item, x - box.x, y - box.y)
    return [NONE_THERE]


def is_hit(screen, item, x, y):
    return item.can_hit and screen.box_of(item).covers(x, y) and screen.shows(item.scroller, x, y)


def hit_answer(number, item, right_by, below_by):
    answer = [0, number, item.node, right_by, below_by]
    if isinstance(item, Letter):
        answer.append(item.end_beside(right_by))
    return answer


def near(page, x, y):
    if not (is_place(x) and is_place(y)):
        return [NOT_IN_RANGE]
    if len(page.letter_numbers) == 0:
        return [NONE_THERE]
    screen = Screen(page)
    # Of several that are as near, min takes the first.
    number = min(page.letter_numbers, key=lambda k: distance(screen.box_of(page.item_list[k]), x, y))
    letter = page.item_list[number]
    return [0, number, letter.node, letter.end_beside(x - screen.box_of(letter).x)]


# Above or below comes first: tuples are compared from their first number on.
def distance(box, x, y):
    return (gap(box.y, box.bottom(), y), gap(box.x, box.right(), x))


# The end is not within, so a place at the end is 1 beyond.
def gap(start, end, place):
    if place < start:
        return start - place
    if place >= end:
        return place - end + 1
    return 0
