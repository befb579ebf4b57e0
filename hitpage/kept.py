"""What a page holds: boxes, scrollers, items, letters, the choice and the focus."""

NO_OUTER = -1
NO_TURN = -1
NO_FOCUS = -1


class Box:
    def __init__(self, x, y, width, height):
        self.x = x
        self.y = y
        self.width = width
        self.height = height

    def right(self):
        return self.x + self.width

    def bottom(self):
        return self.y + self.height

    def has_size(self):
        return self.width > 0 and self.height > 0

    def covers(self, x, y):
        return self.x <= x < self.right() and self.y <= y < self.bottom()

    def moved(self, x, y):
        return Box(self.x + x, self.y + y, self.width, self.height)

    def shared_with(self, other):
        left = max(self.x, other.x)
        top = max(self.y, other.y)
        width = min(self.right(), other.right()) - left
        height = min(self.bottom(), other.bottom()) - top
        # Boxes that lie apart share nothing, which is a box without size, not one of a size below 0.
        return Box(left, top, max(width, 0), max(height, 0))


class Scroller:
    def __init__(self, outer, box, content_width, content_height):
        self.outer = outer
        self.box = box
        self.content_width = content_width
        self.content_height = content_height
        self.scrolled_x = 0
        self.scrolled_y = 0

    def go_to(self, x, y):
        self.scrolled_x = held_within(x, self.content_width - self.box.width)
        self.scrolled_y = held_within(y, self.content_height - self.box.height)

    # Where a box of its content lies in the content of the outer one.
    def moved_outwards(self, box):
        return box.moved(self.box.x - self.scrolled_x, self.box.y - self.scrolled_y)


# A content that is smaller than its box leaves less than 0 to scroll, which is as good as none.
def held_within(scrolled, most):
    return max(0, min(scrolled, most))


class Item:
    def __init__(self, node, scroller, box, can_hit, turn):
        self.node = node
        self.scroller = scroller
        self.box = box
        self.can_hit = can_hit
        self.turn = turn


class Letter(Item):
    def __init__(self, node, scroller, box, offset, backwards, text):
        Item.__init__(self, node, scroller, box, True, NO_TURN)
        self.offset = offset
        self.backwards = backwards
        self.text = text

    def first_end(self):
        return self.offset

    def second_end(self):
        return self.offset + len(self.text)

    # A side is told by how far right of the letter's left side it is.
    def first_side(self):
        return self.box.width if self.backwards else 0

    def second_side(self):
        return 0 if self.backwards else self.box.width

    def left_end(self):
        return self.second_end() if self.backwards else self.first_end()

    def right_end(self):
        return self.first_end() if self.backwards else self.second_end()

    # The end on the side of a point that is so far right of the letter's left side.
    def end_beside(self, right_by):
        return self.left_end() if 2 * right_by < self.box.width else self.right_end()


class Page:
    def __init__(self):
        self.reset(Box(0, 0, 0, 0), 0, 0)

    def reset(self, view, content_width, content_height):
        self.scroller_list = [Scroller(NO_OUTER, view, content_width, content_height)]
        self.item_list = []
        # The letters' numbers among the items, as the letters are read.
        self.letter_numbers = []
        # None, or a tuple of two places among the letters: before which the choice begins, and before which it ends.
        # A choice of no letters is not None: it still is somewhere.
        self.choice = None
        self.focus = NO_FOCUS

    def has_scroller(self, number):
        return 0 <= number < len(self.scroller_list)

    def has_item(self, number):
        return 0 <= number < len(self.item_list)

    # The letter that is read as the one of that place.
    def letter_at(self, place):
        return self.item_list[self.letter_numbers[place]]

    # The scroller of that number, then the one that it lies in, and so on to the view.
    def scrollers_outwards(self, number):
        found = []
        at = number
        while at != NO_OUTER:
            scroller = self.scroller_list[at]
            found.append(scroller)
            at = scroller.outer
        return found

    def add_scroller(self, scroller):
        self.scroller_list.append(scroller)
        return len(self.scroller_list) - 1

    def add_item(self, item):
        self.item_list.append(item)
        return len(self.item_list) - 1

    def add_letter(self, letter):
        number = self.add_item(letter)
        self.letter_numbers.append(number)
        return number
