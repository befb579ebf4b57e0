"""The calls that ask of what is chosen: rectangles, text."""

from hitpage.kept import Box
from hitpage.screen import Screen

LINE_FEED = 10


def rectangles(page):
    screen = Screen(page)
    merged = merged_boxes(chosen_letters(page))
    answer = [len(merged)]
    for scroller_and_box in merged:
        box = screen.moved_onto(scroller_and_box[0], scroller_and_box[1])
        answer.extend([box.x, box.y, box.width, box.height])
    return answer


def chosen_text(page):
    signs = []
    former = None
    for letter in chosen_letters(page):
        if former is not None and not same_line(former, letter):
            signs.append(LINE_FEED)
        signs.extend(letter.text)
        former = letter
    return [len(signs)] + signs


def chosen_letters(page):
    if page.choice is None:
        return []
    return [page.letter_at(place) for place in range(page.choice[0], page.choice[1])]


def same_line(letter, other):
    return letter.scroller == other.scroller and letter.box.y == other.box.y


# Tuples of a scroller's number and a box in its content, as the letters are read.
def merged_boxes(letters):
    merged = []
    for letter in letters:
        box = None
        if len(merged) > 0 and merged[-1][0] == letter.scroller:
            box = joined(merged[-1][1], letter.box)
        if box is None:
            merged.append((letter.scroller, letter.box))
        else:
            merged[-1] = (letter.scroller, box)
    return merged


# The one box that both make, or None if they don't meet side to side.
def joined(box, other):
    if box.y != other.y or box.height != other.height:
        return None
    if other.x == box.right() or other.right() == box.x:
        return Box(min(box.x, other.x), box.y, box.width + other.width, box.height)
    return None
