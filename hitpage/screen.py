"""Where on the screen things lie, and which part of the screen each scroller shows."""

from hitpage.kept import NO_OUTER


class Screen:
    def __init__(self, page):
        # Where the place 0, 0 of each scroller's content is on the screen.
        self.origin_list = []
        # The part of the screen where each scroller shows its content.
        self.shown_list = []
        # An outer scroller has a lower number, so it is always placed before those that lie in it.
        for scroller in page.scroller_list:
            self.place_scroller(scroller)

    def place_scroller(self, scroller):
        box = scroller.box
        shown = box
        if scroller.outer != NO_OUTER:
            box = self.moved_onto(scroller.outer, scroller.box)
            shown = box.shared_with(self.shown_list[scroller.outer])
        self.origin_list.append((box.x - scroller.scrolled_x, box.y - scroller.scrolled_y))
        self.shown_list.append(shown)

    # Where a box of the content of the scroller of that number lies on the screen.
    def moved_onto(self, scroller_number, box):
        origin = self.origin_list[scroller_number]
        return box.moved(origin[0], origin[1])

    def box_of(self, item):
        return self.moved_onto(item.scroller, item.box)

    # The part of the item's box that is shown; without size, if none is.
    def seen_part(self, item):
        return self.box_of(item).shared_with(self.shown_list[item.scroller])

    def shows_whole(self, item):
        part = self.seen_part(item)
        return part.has_size() and part.width == item.box.width and part.height == item.box.height

    def shows(self, scroller_number, x, y):
        return self.shown_list[scroller_number].covers(x, y)
