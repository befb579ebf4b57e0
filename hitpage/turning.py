"""The calls that move the focus: turn, focus."""

from hitpage.kept import NO_FOCUS
from hitpage.limits import NONE_THERE, NOT_IN_RANGE, is_flag


def turn_focus(page, back):
    if not is_flag(back):
        return [NOT_IN_RANGE]
    order = turn_order(page)
    if len(order) == 0:
        return [NONE_THERE]
    page.focus = following(order, page.focus, back == 1)
    return [0, page.focus, page.item_list[page.focus].node]


def set_focus(page, number):
    if number != NO_FOCUS:
        if not page.has_item(number):
            return [NOT_IN_RANGE]
        if not has_turn(page.item_list[number]):
            return [NONE_THERE]
    page.focus = number
    return [0]


# The numbers of the items that the focus goes through.
def turn_order(page):
    numbers = [number for number in range(len(page.item_list)) if has_turn(page.item_list[number])]
    early = [number for number in numbers if page.item_list[number].turn > 0]
    late = [number for number in numbers if page.item_list[number].turn == 0]
    # Those of one turn stay in the order of their numbers, for sorted leaves alike ones as they stand.
    return sorted(early, key=lambda number: page.item_list[number].turn) + late


def has_turn(item):
    return item.turn >= 0 and item.box.has_size()


def following(order, focus, back):
    if focus == NO_FOCUS:
        return order[-1 if back else 0]
    at = order.index(focus) + (-1 if back else 1)
    return order[at % len(order)]
