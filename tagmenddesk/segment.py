"""The calls on one segment, its source and its translation.

A thing is a tuple (kind, number); a tag that the source tells is a tuple (number, pair, needed).
A fault is a tuple (its number, the tag, the other tag or 0).
Lists of things are never changed in place: a call that changes the translation makes another list.
"""

WORD = 0
OPENING = 1
CLOSING = 2
ALONE = 3

MOST_THINGS = 16
MOST_TAGS = 8
MOST_TOLD = 6
GREATEST_WORD = 999
GREATEST_TAG = 99

STRANGE = 1
REPEATED = 2
MISSING = 3
HALF = 4
REVERSED = 5
CROSSING = 6

OUT_OF_RANGE = -1
NOT_AS_TOLD = -3
TOO_MUCH = -5

SOURCE_CALL = 0
TARGET_CALL = 1
FAULTS_CALL = 2
MEND_CALL = 3
WOULD_CALL = 4

# By a call's number: how many whole numbers it has, and if a row comes behind them.
WHOLE_NUMBERS = (0, 0, 0, 0, 0, 3)
HAS_ROW = (True, True, False, False, False, False)


class Desk:
    def __init__(self):
        self.tags = []
        self.things = []


def read_segment(numbers):
    return [(numbers[k], numbers[k + 1]) for k in range(0, len(numbers), 2)]


def write_segment(things):
    numbers = []
    for kind, number in things:
        numbers.append(kind)
        numbers.append(number)
    return numbers


def is_too_much(things):
    tag_count = len([thing for thing in things if thing[0] != WORD])
    return len(things) > MOST_THINGS or tag_count > MOST_TAGS


def has_great_number(things):
    for kind, number in things:
        greatest = GREATEST_WORD if kind == WORD else GREATEST_TAG
        if number > greatest:
            return True
    return False


def is_out_of_range(things):
    return is_too_much(things) or has_great_number(things)


def are_tags_out_of_range(tags):
    numbers = [tag[0] for tag in tags]
    if len(numbers) > MOST_TOLD or len(set(numbers)) < len(numbers):
        return True
    return any([number > GREATEST_TAG for number in numbers])


def pieces_of(number, pair):
    if pair == 1:
        return [(OPENING, number), (CLOSING, number)]
    return [(ALONE, number)]


def is_of_source(tags, thing):
    for number, pair, needed in tags:
        if thing in pieces_of(number, pair):
            return True
    return False


def strange_faults(tags, things):
    numbers = []
    for thing in things:
        if thing[0] != WORD and not is_of_source(tags, thing) and thing[1] not in numbers:
            numbers.append(thing[1])
    return [(STRANGE, number, 0) for number in numbers]


def is_whole(things, number):
    return things.count((OPENING, number)) == 1 and things.count((CLOSING, number)) == 1


def crosses(things, first, second):
    """Both are there whole; the one that is called first opens first."""
    first_opens = things.index((OPENING, first))
    first_closes = things.index((CLOSING, first))
    second_opens = things.index((OPENING, second))
    second_closes = things.index((CLOSING, second))
    return first_opens < second_opens < first_closes < second_closes


def crossing_faults(tags, things, number):
    found = []
    for other, pair, needed in tags:
        if pair == 1 and is_whole(things, other) and crosses(things, number, other):
            found.append((CROSSING, number, other))
    return found


def pair_faults(tags, things, number, needed):
    openings = things.count((OPENING, number))
    closings = things.count((CLOSING, number))
    if openings > 1 or closings > 1:
        return [(REPEATED, number, 0)]
    if openings + closings == 0:
        return [(MISSING, number, 0)] if needed == 1 else []
    if openings + closings == 1:
        return [(HALF, number, 0)]
    if things.index((CLOSING, number)) < things.index((OPENING, number)):
        return [(REVERSED, number, 0)]
    return crossing_faults(tags, things, number)


def alone_faults(things, number, needed):
    times = things.count((ALONE, number))
    if times > 1:
        return [(REPEATED, number, 0)]
    if times == 0 and needed == 1:
        return [(MISSING, number, 0)]
    return []


def faults_of(tags, things):
    found = strange_faults(tags, things)
    for number, pair, needed in tags:
        if pair == 1:
            found.extend(pair_faults(tags, things, number, needed))
        else:
            found.extend(alone_faults(things, number, needed))
    return found


def is_as_told(tags, things):
    all_needed = [(tag[0], tag[1], 1) for tag in tags]
    return len(faults_of(all_needed, things)) == 0


def may_stay(tags, kept):
    # What's missing or half is completed later; every other fault lies in what's kept itself.
    for fault, number, other in faults_of(tags, kept):
        if fault != MISSING and fault != HALF:
            return False
    return True


def choices_that_may_stay(tags, things):
    """Every choice of what's kept, the preferred ahead: at the first tag kept by just one of two, that one."""
    choices = [[]]
    for thing in things:
        longer = []
        for kept in choices:
            more = kept + [thing]
            # What may not stay doesn't become so by keeping more, so it needn't be followed.
            if thing[0] == WORD or may_stay(tags, more):
                longer.append(more)
            if thing[0] != WORD:
                longer.append(kept)
        choices = longer
    return choices


def completed(tags, kept):
    things = []
    for thing in kept:
        opening = (OPENING, thing[1])
        closing = (CLOSING, thing[1])
        if thing == closing and opening not in kept:
            things.append(opening)
        things.append(thing)
        if thing == opening and closing not in kept:
            things.append(closing)
    for number, pair, needed in tags:
        pieces = pieces_of(number, pair)
        if needed == 1 and not any([piece in kept for piece in pieces]):
            things.extend(pieces)
    return things


def mended(tags, things):
    """Gives back a tuple: the cost, the things."""
    best = None
    for kept in choices_that_may_stay(tags, things):
        whole = completed(tags, kept)
        taken_out = len(things) - len(kept)
        put_in = len(whole) - len(kept)
        # Of several at one cost the first stays, for the choices come preferred ahead.
        if best is None or taken_out + put_in < best[0]:
            best = (taken_out + put_in, whole)
    return best


def standing(desk):
    return [len(desk.things), len(faults_of(desk.tags, desk.things))]


def source_answer(desk, told):
    segment_start = 1 + 3 * told[0]
    tags = [(told[k], told[k + 1], told[k + 2]) for k in range(1, segment_start, 3)]
    things = read_segment(told[segment_start:])
    if is_out_of_range(things) or are_tags_out_of_range(tags):
        return [OUT_OF_RANGE]
    if not is_as_told(tags, things):
        return [NOT_AS_TOLD]
    desk.tags = tags
    desk.things = []
    return standing(desk)


def target_answer(desk, numbers):
    things = read_segment(numbers)
    if is_out_of_range(things):
        return [OUT_OF_RANGE]
    desk.things = things
    return standing(desk)


def faults_answer(desk):
    found = faults_of(desk.tags, desk.things)
    numbers = [len(found)]
    for fault, number, other in found:
        numbers.extend([fault, number, other])
    return numbers


def mended_answer(cost, things):
    return [cost, len(things)] + write_segment(things)


def mend_answer(desk):
    best = mended(desk.tags, desk.things)
    if is_too_much(best[1]):
        return [TOO_MUCH]
    desk.things = best[1]
    return mended_answer(best[0], best[1])


def would_answer(desk):
    best = mended(desk.tags, desk.things)
    return mended_answer(best[0], best[1])


def put_answer(desk, spot, kind, number):
    if spot > len(desk.things) or number > GREATEST_TAG:
        return [OUT_OF_RANGE]
    things = desk.things[:spot] + [(kind, number)] + desk.things[spot:]
    if is_too_much(things):
        return [TOO_MUCH]
    desk.things = things
    return standing(desk)


def call_length(calls, start):
    length = 1 + WHOLE_NUMBERS[calls[start]]
    if HAS_ROW[calls[start]]:
        length = length + 1 + calls[start + length]
    return length


def call_answer(desk, call):
    if call[0] == SOURCE_CALL:
        return source_answer(desk, call[2:])
    if call[0] == TARGET_CALL:
        return target_answer(desk, call[2:])
    if call[0] == FAULTS_CALL:
        return faults_answer(desk)
    if call[0] == MEND_CALL:
        return mend_answer(desk)
    if call[0] == WOULD_CALL:
        return would_answer(desk)
    # Only put is left: call_length knows no call behind it.
    return put_answer(desk, call[1], call[2], call[3])


def answers(calls):
    desk = Desk()
    given = []
    start = 0
    while start < len(calls):
        length = call_length(calls, start)
        answer = call_answer(desk, calls[start:start + length])
        given.append(len(answer))
        given.extend(answer)
        start = start + length
    return given
