"""What may be told, how much may be held, and the numbers of the refusals."""

NOT_IN_RANGE = -8
FULL = -6
NONE_THERE = -3

MOST_SCROLLERS = 64
MOST_ITEMS = 65536

FARTHEST = 33554432
HIGHEST_TURN = 1000
LONGEST_LETTER = 8
LONGEST_SEARCH = 256
LAST_CODE_POINT = 1114111
FIRST_SURROGATE = 55296
LAST_SURROGATE = 57343


def is_place(number):
    return -FARTHEST <= number <= FARTHEST


def is_size(number):
    return 0 <= number <= FARTHEST


# An offset counts code points, it is no place on the page: it may be as high as numbers go.
def is_offset(number):
    return number >= 0


def is_flag(number):
    return 0 <= number <= 1


def is_turn(number):
    return -1 <= number <= HIGHEST_TURN


def is_code_point(number):
    if FIRST_SURROGATE <= number <= LAST_SURROGATE:
        return False
    return 0 <= number <= LAST_CODE_POINT


def is_letter_text(text):
    return is_text(text, LONGEST_LETTER)


def is_search_text(text):
    return is_text(text, LONGEST_SEARCH)


def is_text(text, longest):
    return 1 <= len(text) <= longest and all([is_code_point(number) for number in text])


def is_box(box):
    return is_place(box.x) and is_place(box.y) and is_size(box.width) and is_size(box.height)
