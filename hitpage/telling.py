"""The calls that tell what is on a page: begin, scroller, item, letter."""

from hitpage.kept import Box, Item, Letter, Scroller
from hitpage.limits import FULL, MOST_ITEMS, MOST_SCROLLERS, NOT_IN_RANGE
from hitpage.limits import is_box, is_flag, is_letter_text, is_offset, is_size, is_turn


def begin(page, width, height, content_width, content_height):
    view = Box(0, 0, width, height)
    if not (is_box(view) and is_size(content_width) and is_size(content_height)):
        return [NOT_IN_RANGE]
    page.reset(view, content_width, content_height)
    return [0]


def tell_scroller(page, outer, box, content_width, content_height):
    in_range = is_box(box) and is_size(content_width) and is_size(content_height)
    if not (in_range and page.has_scroller(outer)):
        return [NOT_IN_RANGE]
    if len(page.scroller_list) >= MOST_SCROLLERS:
        return [FULL]
    return [page.add_scroller(Scroller(outer, box, content_width, content_height))]


# A node may be any number, so it is not looked at.
def tell_item(page, node, scroller, box, can_hit, turn):
    in_range = is_box(box) and is_flag(can_hit) and is_turn(turn)
    if not (in_range and page.has_scroller(scroller)):
        return [NOT_IN_RANGE]
    if len(page.item_list) >= MOST_ITEMS:
        return [FULL]
    return [page.add_item(Item(node, scroller, box, can_hit == 1, turn))]


def tell_letter(page, node, scroller, box, offset, backwards, text):
    in_range = is_box(box) and is_offset(offset) and is_flag(backwards) and is_letter_text(text)
    if not (in_range and page.has_scroller(scroller)):
        return [NOT_IN_RANGE]
    if len(page.item_list) >= MOST_ITEMS:
        return [FULL]
    return [page.add_letter(Letter(node, scroller, box, offset, backwards == 1, text))]
