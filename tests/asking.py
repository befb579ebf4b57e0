"""Calls written by their names, for the tests."""

from hitpage.pages import answers

CALLS = {
    "begin": 1,
    "scroller": 2,
    "item": 3,
    "letter": 4,
    "hit": 5,
    "near": 6,
    "caret": 7,
    "choose": 8,
    "chosen": 9,
    "rectangles": 10,
    "text": 11,
    "scroll": 12,
    "scrolled": 13,
    "show": 14,
    "seen": 15,
    "find": 16,
    "turn": 17,
    "focus": 18,
}

FAR = 33554432
LOWEST = -2147483648
HIGHEST = 2147483647


def written(calls):
    """The one list of whole numbers; a text in a call may be a str or a list of code points."""
    numbers = []
    for call in calls:
        numbers.append(CALLS[call[0]])
        for given in call[1:]:
            if isinstance(given, int):
                numbers.append(given)
            else:
                row = [ord(sign) if isinstance(sign, str) else sign for sign in given]
                numbers.append(len(row))
                numbers.extend(row)
    return numbers


def split(given):
    """The answers, a list each."""
    found = []
    at = 0
    while at < len(given):
        end = at + 1 + given[at]
        found.append(given[at + 1:end])
        at = end
    if at != len(given):
        raise AssertionError("the last answer is cut off")
    return found


def ask(*calls):
    """What each of the calls answers."""
    found = split(answers(written(calls)))
    if len(found) != len(calls):
        raise AssertionError("not one answer a call")
    return found


def last(*calls):
    """What the last of the calls answers."""
    return ask(*calls)[-1]
