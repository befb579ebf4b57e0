"""The call that looks for a text among the letters: find."""

from hitpage.limits import NOT_IN_RANGE, is_flag, is_search_text

NOT_FOUND = 0
FOUND = 1
FOUND_ROUND = 2

CAPITAL_A = 65
CAPITAL_Z = 90
FROM_CAPITAL_TO_SMALL = 32


def find_text(page, text, fold, back):
    if not (is_search_text(text) and is_flag(fold) and is_flag(back)):
        return [NOT_IN_RANGE]
    spans = spans_of(page, text, fold == 1)
    if len(spans) == 0:
        return [NOT_FOUND]
    ahead = spans_ahead(page, spans, back == 1)
    if len(ahead) == 0:
        page.choice = spans[-1 if back == 1 else 0]
        return [FOUND_ROUND]
    page.choice = ahead[-1 if back == 1 else 0]
    return [FOUND]


# Where the letters have just that text, as they are read: each a choice, a tuple of two places among the letters.
def spans_of(page, text, fold):
    row = []
    # By how many code points stand before: the place among the letters, behind the last one too.
    places = {0: 0}
    for place in range(len(page.letter_numbers)):
        row.extend(page.letter_at(place).text)
        places[len(row)] = place + 1
    row = folded(row, fold)
    wanted = folded(text, fold)
    spans = []
    for start in places:
        end = start + len(wanted)
        if end in places and row[start:end] == wanted:
            spans.append((places[start], places[end]))
    return spans


def folded(text, fold):
    return [small(number) for number in text] if fold else text


def small(number):
    return number + FROM_CAPITAL_TO_SMALL if CAPITAL_A <= number <= CAPITAL_Z else number


# All spans have as many code points, so the last that begins is the last that ends, too.
def spans_ahead(page, spans, back):
    if back:
        end = len(page.letter_numbers) if page.choice is None else page.choice[0]
        return [span for span in spans if span[1] <= end]
    start = 0 if page.choice is None else page.choice[1]
    return [span for span in spans if span[0] >= start]
