"""Many small lines against the document's words, written down a second time in another way."""

import itertools
import random
import unittest

from lines import FAULTS, MEND, WOULD, ask, flat

OPENING, CLOSING, ALONE = 1, 2, 3


def positions(things, thing):
    return [place for place, other in enumerate(things) if other == thing]


def right(tags, things):
    spans = []
    known = []
    for number, pair, needed in tags:
        if not pair:
            known.append((ALONE, number))
            if len(positions(things, (ALONE, number))) not in ((1,) if needed else (0, 1)):
                return False
            continue
        known += [(OPENING, number), (CLOSING, number)]
        opened, closed = positions(things, (OPENING, number)), positions(things, (CLOSING, number))
        if not opened and not closed and not needed:
            continue
        if len(opened) != 1 or len(closed) != 1 or closed < opened:
            return False
        spans.append((opened[0], closed[0]))
    if any(a < c < b < d for a, b in spans for c, d in spans):
        return False
    return all(kind == 0 or (kind, number) in known for kind, number in things)


def stays(tags, kept):
    pairs = {number: pair for number, pair, needed in tags}
    tagged = [thing for thing in kept if thing[0]]
    if len(set(tagged)) < len(tagged):
        return False
    if any(number not in pairs or pairs[number] != (kind != ALONE) for kind, number in tagged):
        return False
    spans = []
    for number in pairs:
        if (OPENING, number) in tagged and (CLOSING, number) in tagged:
            spans.append((tagged.index((OPENING, number)), tagged.index((CLOSING, number))))
    return not any(b < a for a, b in spans) and not any(a < c < b < d for a, b in spans for c, d in spans)


def complete(tags, kept):
    made = []
    for kind, number in kept:
        if kind == OPENING and (CLOSING, number) not in kept:
            made += [(OPENING, number), (CLOSING, number)]
        elif kind == CLOSING and (OPENING, number) not in kept:
            made += [(OPENING, number), (CLOSING, number)]
        else:
            made.append((kind, number))
    there = [number for kind, number in kept if kind]
    for number, pair, needed in tags:
        if needed and number not in there:
            made += [(OPENING, number), (CLOSING, number)] if pair else [(ALONE, number)]
    return made


def mend(tags, things):
    places = [place for place, thing in enumerate(things) if thing[0]]
    found = []
    for left_out in itertools.product((0, 1), repeat=len(places)):
        gone = [place for place, out in zip(places, left_out) if out]
        kept = [thing for place, thing in enumerate(things) if place not in gone]
        if stays(tags, kept):
            made = complete(tags, kept)
            found.append((len(gone) + len(made) - len(kept), left_out, made))
    cost, left_out, made = min(found)
    return cost, made


def faults(tags, things):
    pairs = {number: pair for number, pair, needed in tags}
    strange = {}
    for kind, number in things:
        if kind and pairs.get(number) != (kind != ALONE):
            strange[number] = True
    found = [[1, number, 0] for number in strange]
    for number, pair, needed in tags:
        if pair:
            found += faults_of_pair(tags, things, number, needed)
        elif len(positions(things, (ALONE, number))) > 1:
            found.append([2, number, 0])
        elif needed and (ALONE, number) not in things:
            found.append([3, number, 0])
    return found


def faults_of_pair(tags, things, number, needed):
    opened, closed = positions(things, (OPENING, number)), positions(things, (CLOSING, number))
    if max(len(opened), len(closed)) > 1:
        return [[2, number, 0]]
    if not opened and not closed:
        return [[3, number, 0]] * needed
    if not opened or not closed:
        return [[4, number, 0]]
    if closed < opened:
        return [[5, number, 0]]
    found = []
    for other, pair, other_needed in tags:
        begins, ends = positions(things, (OPENING, other)), positions(things, (CLOSING, other))
        if pair and len(begins) == 1 and len(ends) == 1 and opened < begins < closed < ends:
            found.append([6, number, other])
    return found


def distance(things, other):
    """How many must be taken out and put in, if no word is: a table row by row."""
    row = list(range(len(other) + 1))
    for thing in things:
        above = row
        row = [above[0] + 1]
        for place, wanted in enumerate(other):
            if thing == wanted:
                row.append(above[place])
            else:
                row.append(1 + min(above[place + 1], row[place]))
    return row[-1]


def source_call(tags):
    told = [len(tags)]
    for tag in tags:
        told += tag
    for number, pair, needed in tags:
        told += [OPENING, number, CLOSING, number] if pair else [ALONE, number]
    return [0, len(told)] + told


class AgainstTheDocument(unittest.TestCase):
    def check(self, tags, things):
        numbers = flat(things)
        found = ask(source_call(tags), [1, len(numbers)] + numbers, FAULTS, WOULD, MEND, FAULTS)
        expected = faults(tags, things)
        cost, made = mend(tags, things)
        said = (tags, things)
        self.assertEqual(found[1], [len(things), len(expected)], said)
        self.assertEqual(found[2], [len(expected)] + flat(expected), said)
        self.assertEqual(found[3], [cost, len(made)] + flat(made), said)
        self.assertEqual(expected == [], right(tags, things), said)
        if len(made) > 16:
            self.assertEqual(found[4:], [[-5], found[2]], said)
            return
        self.assertEqual(found[4:], [found[3], [0]], said)
        self.assertTrue(right(tags, made), said)
        self.assertEqual([t for t in made if t[0] == 0], [t for t in things if t[0] == 0], said)

    def test_all_small_ones(self):
        signs = [(0, 1), (1, 1), (2, 1), (1, 2), (2, 2), (3, 3)]
        tags = [(2, 1, 1), (3, 0, 1), (1, 1, 0)]
        for length in range(5):
            for things in itertools.product(signs, repeat=length):
                self.check(tags, list(things))

    def test_all_small_ones_of_other_needs(self):
        signs = [(1, 1), (2, 1), (3, 1), (1, 2), (2, 2)]
        for needs in itertools.product((0, 1), repeat=2):
            tags = [(1, 1, needs[0]), (2, 1, needs[1])]
            for length in range(5):
                for things in itertools.product(signs, repeat=length):
                    self.check(tags, list(things))

    def test_long_ones(self):
        draw = random.Random(20)
        for case in range(1500):
            many_pairs = draw.randrange(5)
            many_alone = draw.randrange(min(6 - many_pairs, 8 - 2 * many_pairs) + 1)
            numbers = draw.sample(range(7), many_pairs + many_alone)
            tags = [(number, int(k < many_pairs), draw.randrange(2)) for k, number in enumerate(numbers)]
            draw.shuffle(tags)
            things = [(0, draw.randrange(1000)) for word in range(draw.choice((0, 3, 8, 8)))]
            for tag in range(draw.randrange(9)):
                number, pair, needed = draw.choice(tags) if tags else (9, 0, 0)
                kind = draw.randint(1, 2) if pair else ALONE
                if draw.randrange(12) == 0:
                    kind, number = draw.randint(1, 3), draw.randrange(8)
                things.insert(draw.randrange(len(things) + 1), (kind, number))
            self.check(tags, things)

    def test_no_right_one_is_cheaper(self):
        pieces = [(1, 1), (2, 1), (1, 2), (2, 2), (3, 3)]
        signs = pieces + [(0, 4)]
        tags = [(1, 1, 1), (2, 1, 0), (3, 0, 1)]
        rights = {}
        for words in range(3):
            rights[words] = []
            for length in range(len(pieces) + 1):
                for chosen in itertools.permutations(pieces + [(0, 4)] * words, length + words):
                    if chosen.count((0, 4)) == words and right(tags, chosen):
                        rights[words].append(chosen)
            rights[words] = sorted(set(rights[words]))
        for things in itertools.product(signs, repeat=3):
            if things.count((0, 4)) < 3:
                found = ask(source_call(tags), [1, 6] + flat(things), WOULD)
                cheapest = min(distance(things, other) for other in rights[things.count((0, 4))])
                self.assertEqual(found[2][0], cheapest, things)


if __name__ == "__main__":
    unittest.main()
