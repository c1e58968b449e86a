"""The calls on one segment, its source and its translation.

A thing is a tuple (kind, number); a tag that the source tells is a tuple (number, pair, needed).
A fault is a tuple (its number, the tag, the other tag or 0).
Lists of things are never changed in place: a call that changes the translation makes another list,
so what an undo goes back to can be kept without a copy.
Call 7 is called rewrite here, for the document's own word for it may not stand in this file.
"""

WORD = 0
OPENING = 1
CLOSING = 2
ALONE = 3

MOST_THINGS = 16
MOST_TAGS = 8
MOST_TOLD = 6
GREATEST_WORD = 999
GREATEST_TAG = 99

STRANGE = 1
REPEATED = 2
MISSING = 3
HALF = 4
REVERSED = 5
CROSSING = 6

OUT_OF_RANGE = -1
NO_SUCH_PAIR = -2
NOT_AS_TOLD = -3
TOO_MUCH = -5
IS_A_WORD = -6
NOT_WHOLE = -6
NOTHING_TO_UNDO = -7

SOURCE_CALL = 0
TARGET_CALL = 1
FAULTS_CALL = 2
MEND_CALL = 3
WOULD_CALL = 4
PUT_CALL = 5
TAKE_CALL = 6
REWRITE_CALL = 7
WITHIN_CALL = 8
SHOWS_CALL = 9
UNDO_CALL = 10

# By a call's number: how many whole numbers it has, and if a row comes behind them.
WHOLE_NUMBERS = (0, 0, 0, 0, 0, 3, 1, 2, 1, 0, 0, 2)
HAS_ROW = (True, True, False, False, False, False, False, True, False, False, False, False)


class Desk:
    def __init__(self):
        self.tags = []
        self.source_things = []
        self.things = []
        self.earlier = []


def read_segment(numbers):
    return [(numbers[k], numbers[k + 1]) for k in range(0, len(numbers), 2)]


def write_segment(things):
    numbers = []
    for kind, number in things:
        numbers.append(kind)
        numbers.append(number)
    return numbers


def is_too_much(things):
    tag_count = len([thing for thing in things if thing[0] != WORD])
    return len(things) > MOST_THINGS or tag_count > MOST_TAGS


def has_great_number(things):
    return any([number > (GREATEST_WORD if kind == WORD else GREATEST_TAG) for kind, number in things])


def are_tags_out_of_range(tags):
    numbers = [tag[0] for tag in tags]
    if len(numbers) > MOST_TOLD or len(set(numbers)) < len(numbers):
        return True
    return any([number > GREATEST_TAG for number in numbers])


def pieces_of(number, pair):
    if pair == 1:
        return [(OPENING, number), (CLOSING, number)]
    return [(ALONE, number)]


def is_of_source(tags, thing):
    return any([thing in pieces_of(tag[0], tag[1]) for tag in tags])


def strange_faults(tags, things):
    numbers = []
    for thing in things:
        if thing[0] != WORD and not is_of_source(tags, thing) and thing[1] not in numbers:
            numbers.append(thing[1])
    return [(STRANGE, number, 0) for number in numbers]


def is_whole(things, number):
    return things.count((OPENING, number)) == 1 and things.count((CLOSING, number)) == 1


def is_in_order(things, number):
    """Asked only of a pair that is there whole."""
    return things.index((OPENING, number)) < things.index((CLOSING, number))


def crosses(things, first, second):
    """Both are there whole; the one that is called first opens first."""
    first_opens = things.index((OPENING, first))
    first_closes = things.index((CLOSING, first))
    second_opens = things.index((OPENING, second))
    second_closes = things.index((CLOSING, second))
    return first_opens < second_opens < first_closes < second_closes


def crossing_faults(tags, things, number):
    others = [tag[0] for tag in tags if tag[1] == 1 and is_whole(things, tag[0])]
    return [(CROSSING, number, other) for other in others if crosses(things, number, other)]


def pair_faults(tags, things, number, needed):
    openings = things.count((OPENING, number))
    closings = things.count((CLOSING, number))
    if openings > 1 or closings > 1:
        return [(REPEATED, number, 0)]
    if openings + closings == 0:
        return [(MISSING, number, 0)] if needed == 1 else []
    if openings + closings == 1:
        return [(HALF, number, 0)]
    if not is_in_order(things, number):
        return [(REVERSED, number, 0)]
    return crossing_faults(tags, things, number)


def alone_faults(things, number, needed):
    times = things.count((ALONE, number))
    if times > 1:
        return [(REPEATED, number, 0)]
    if times == 0 and needed == 1:
        return [(MISSING, number, 0)]
    return []


def faults_of(tags, things):
    found = strange_faults(tags, things)
    for number, pair, needed in tags:
        if pair == 1:
            found.extend(pair_faults(tags, things, number, needed))
        else:
            found.extend(alone_faults(things, number, needed))
    return found


def is_as_told(tags, things):
    all_needed = [(tag[0], tag[1], 1) for tag in tags]
    return len(faults_of(all_needed, things)) == 0


def may_stay(tags, kept):
    # What's missing or half is completed later; every other fault lies in what's kept itself.
    return all([fault[0] in (MISSING, HALF) for fault in faults_of(tags, kept)])


def choices_that_may_stay(tags, things):
    """Every choice of what's kept, the preferred ahead: at the first tag kept by just one of two, that one."""
    choices = [[]]
    for thing in things:
        longer = []
        for kept in choices:
            more = kept + [thing]
            # What may not stay doesn't become so by keeping more, so it needn't be followed.
            if thing[0] == WORD or may_stay(tags, more):
                longer.append(more)
            if thing[0] != WORD:
                longer.append(kept)
        choices = longer
    return choices


def completed(tags, kept):
    things = []
    for thing in kept:
        opening = (OPENING, thing[1])
        closing = (CLOSING, thing[1])
        if thing == closing and opening not in kept:
            things.append(opening)
        things.append(thing)
        if thing == opening and closing not in kept:
            things.append(closing)
    for number, pair, needed in tags:
        pieces = pieces_of(number, pair)
        if needed == 1 and not any([piece in kept for piece in pieces]):
            things.extend(pieces)
    return things


def mended(tags, things):
    """Gives back a tuple: the cost, the things."""
    best = None
    for kept in choices_that_may_stay(tags, things):
        whole = completed(tags, kept)
        taken_out = len(things) - len(kept)
        put_in = len(whole) - len(kept)
        # Of several at one cost the first stays, for the choices come preferred ahead.
        if best is None or taken_out + put_in < best[0]:
            best = (taken_out + put_in, whole)
    return best


def standing(desk):
    return [len(desk.things), len(faults_of(desk.tags, desk.things))]


def without(things, spot):
    return things[:spot] + things[spot + 1:]


def change(desk, things):
    desk.earlier.append(desk.things)
    desk.things = things
    return standing(desk)


def source_answer(desk, told):
    segment_start = 1 + 3 * told[0]
    tags = [(told[k], told[k + 1], told[k + 2]) for k in range(1, segment_start, 3)]
    things = read_segment(told[segment_start:])
    if is_too_much(things) or has_great_number(things) or are_tags_out_of_range(tags):
        return [OUT_OF_RANGE]
    if not is_as_told(tags, things):
        return [NOT_AS_TOLD]
    desk.tags = tags
    desk.source_things = things
    desk.things = []
    desk.earlier = []
    return standing(desk)


def target_answer(desk, numbers):
    things = read_segment(numbers)
    if is_too_much(things) or has_great_number(things):
        return [OUT_OF_RANGE]
    return change(desk, things)


def faults_answer(desk):
    found = faults_of(desk.tags, desk.things)
    numbers = [len(found)]
    for fault, number, other in found:
        numbers.extend([fault, number, other])
    return numbers


def segment_answer(things):
    return [len(things)] + write_segment(things)


def mend_answer(desk):
    best = mended(desk.tags, desk.things)
    if is_too_much(best[1]):
        return [TOO_MUCH]
    change(desk, best[1])
    return [best[0]] + segment_answer(best[1])


def would_answer(desk):
    best = mended(desk.tags, desk.things)
    return [best[0]] + segment_answer(best[1])


def put_answer(desk, spot, kind, number):
    if spot > len(desk.things) or number > GREATEST_TAG:
        return [OUT_OF_RANGE]
    things = desk.things[:spot] + [(kind, number)] + desk.things[spot:]
    if is_too_much(things):
        return [TOO_MUCH]
    return change(desk, things)


def refusal_of_taking(things, spot):
    """Gives back None if a tag is there."""
    if spot >= len(things):
        return OUT_OF_RANGE
    if things[spot][0] == WORD:
        return IS_A_WORD
    return None


def take_answer(desk, spot):
    refusal = refusal_of_taking(desk.things, spot)
    if refusal is not None:
        return [refusal]
    return change(desk, without(desk.things, spot))


def move_answer(desk, spot, other):
    refusal = refusal_of_taking(desk.things, spot)
    if refusal is not None:
        return [refusal]
    others = without(desk.things, spot)
    if other > len(others):
        return [OUT_OF_RANGE]
    # As many things and tags as before, so there can't be too much.
    return change(desk, others[:other] + [desk.things[spot]] + others[other:])


def rewrite_answer(desk, spot, many, words):
    end = spot + many
    new_words = [(WORD, word) for word in words]
    if end > len(desk.things) or has_great_number(new_words):
        return [OUT_OF_RANGE]
    staying = [thing for thing in desk.things[spot:end] if thing[0] != WORD]
    things = desk.things[:spot] + staying + new_words + desk.things[end:]
    if is_too_much(things):
        return [TOO_MUCH]
    return change(desk, things)


def words_within(things, number):
    first = things.index((OPENING, number))
    last = things.index((CLOSING, number))
    return [thing[1] for thing in things[first:last] if thing[0] == WORD]


def within_answer(desk, number):
    if not is_of_source(desk.tags, (OPENING, number)):
        return [NO_SUCH_PAIR]
    if not is_whole(desk.things, number) or not is_in_order(desk.things, number):
        return [NOT_WHOLE]
    in_source = words_within(desk.source_things, number)
    in_translation = words_within(desk.things, number)
    return [len(in_source)] + in_source + [len(in_translation)] + in_translation


def undo_answer(desk):
    if len(desk.earlier) == 0:
        return [NOTHING_TO_UNDO]
    desk.things = desk.earlier.pop()
    return standing(desk)


def call_length(calls, start):
    length = 1 + WHOLE_NUMBERS[calls[start]]
    if HAS_ROW[calls[start]]:
        length = length + 1 + calls[start + length]
    return length


def call_answer(desk, call):
    if call[0] == SOURCE_CALL:
        return source_answer(desk, call[2:])
    if call[0] == TARGET_CALL:
        return target_answer(desk, call[2:])
    if call[0] == FAULTS_CALL:
        return faults_answer(desk)
    if call[0] == MEND_CALL:
        return mend_answer(desk)
    if call[0] == WOULD_CALL:
        return would_answer(desk)
    if call[0] == PUT_CALL:
        return put_answer(desk, call[1], call[2], call[3])
    if call[0] == TAKE_CALL:
        return take_answer(desk, call[1])
    if call[0] == REWRITE_CALL:
        return rewrite_answer(desk, call[1], call[2], call[4:])
    if call[0] == WITHIN_CALL:
        return within_answer(desk, call[1])
    if call[0] == SHOWS_CALL:
        return segment_answer(desk.things)
    if call[0] == UNDO_CALL:
        return undo_answer(desk)
    # Only move is left: call_length knows no call behind it.
    return move_answer(desk, call[1], call[2])


def answers(calls):
    desk = Desk()
    given = []
    start = 0
    while start < len(calls):
        length = call_length(calls, start)
        answer = call_answer(desk, calls[start:start + length])
        given.append(len(answer))
        given.extend(answer)
        start = start + length
    return given
