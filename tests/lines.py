"""Lines of calls for the tests, in a short notation, and their answers call by call.

A segment is a text: `7` is a word, `<3` an opening, `3>` a closing, `=3` one alone.
"""

from tagmenddesk.segment import answers


def segment(text):
    numbers = []
    for sign in text.split():
        if sign.startswith("<"):
            numbers += [1, int(sign[1:])]
        elif sign.endswith(">"):
            numbers += [2, int(sign[:-1])]
        elif sign.startswith("="):
            numbers += [3, int(sign[1:])]
        else:
            numbers += [0, int(sign)]
    return numbers


def source(tags, text):
    """tags: a text such as `<1! <2 =3!`: a pair or one alone, with ! if it's needed."""
    told = [len(tags.split())]
    for sign in tags.split():
        needed = sign.endswith("!")
        told += [int(sign[1:].rstrip("!")), int(sign[0] == "<"), int(needed)]
    told += segment(text)
    return [0, len(told)] + told


def target(text):
    return [1, len(segment(text))] + segment(text)


FAULTS = [2]
MEND = [3]
WOULD = [4]
SHOWS = [9]
UNDO = [10]


def put(spot, text):
    return [5, spot] + segment(text)


def take(spot):
    return [6, spot]


def retype(spot, many, text=""):
    """The call that the document names type; the text is of words alone."""
    new_words = [int(word) for word in text.split()]
    return [7, spot, many, len(new_words)] + new_words


def within(number):
    return [8, number]


def move(spot, other):
    return [11, spot, other]


def flat(calls):
    return [number for call in calls for number in call]


def split(given):
    found = []
    while given:
        found.append(given[1:1 + given[0]])
        given = given[1 + given[0]:]
    return found


def ask(*calls):
    return split(answers(flat(calls)))


def last(*calls):
    return ask(*calls)[-1]


def shown(text):
    return [len(text.split())] + segment(text)


def mended(cost, text):
    return [cost] + shown(text)


def told(*faults):
    return [len(faults)] + flat(faults)


def words(many):
    return " ".join(["5"] * many)
