"""The calls that scroll, and ask what is scrolled and shown: scroll, scrolled, show, seen."""

from hitpage.limits import NONE_THERE, NOT_IN_RANGE, is_place
from hitpage.screen import Screen


def scroll(page, number, x, y):
    if not (page.has_scroller(number) and is_place(x) and is_place(y)):
        return [NOT_IN_RANGE]
    left_x = x
    left_y = y
    for scroller in page.scrollers_outwards(number):
        from_x = scroller.scrolled_x
        from_y = scroller.scrolled_y
        scroller.go_to(from_x + left_x, from_y + left_y)
        left_x -= scroller.scrolled_x - from_x
        left_y -= scroller.scrolled_y - from_y
    return [0, x - left_x, y - left_y]


def scrolled(page, number):
    if not page.has_scroller(number):
        return [NOT_IN_RANGE]
    scroller = page.scroller_list[number]
    return [0, scroller.scrolled_x, scroller.scrolled_y]


def show(page, number):
    if not page.has_item(number):
        return [NOT_IN_RANGE]
    item = page.item_list[number]
    box = item.box
    for scroller in page.scrollers_outwards(item.scroller):
        x = scrolled_for(box.x, box.width, scroller.scrolled_x, scroller.box.width)
        y = scrolled_for(box.y, box.height, scroller.scrolled_y, scroller.box.height)
        scroller.go_to(x, y)
        box = scroller.moved_outwards(box)
    return [0, 1 if Screen(page).shows_whole(item) else 0]


# How far to scroll so that what lies from start on, of that size, is within the room that is shown from now_at on.
def scrolled_for(start, size, now_at, room):
    if start < now_at or size > room:
        return start
    if start + size > now_at + room:
        return start + size - room
    return now_at


def seen(page, number):
    if not page.has_item(number):
        return [NOT_IN_RANGE]
    part = Screen(page).seen_part(page.item_list[number])
    if not part.has_size():
        return [NONE_THERE]
    return [0, part.x, part.y, part.width, part.height]
