"""Many lines of all twelve calls against the document's words, written down a second time in another way."""

import random
import unittest

from lines import FAULTS, MEND, SHOWS, UNDO, WOULD, ask, flat, source, target
from test_definition import faults, mend, right

GREATEST = 4294967295


def fits(things):
    return len(things) <= 16 and sum(kind > 0 for kind, number in things) <= 8


def in_range(things):
    return fits(things) and all(number <= (99 if kind else 999) for kind, number in things)


def things_of(numbers):
    return list(zip(numbers[::2], numbers[1::2]))


def tags_of(numbers):
    return list(zip(numbers[::3], numbers[1::3], numbers[2::3]))


def written(things):
    return [len(things)] + flat(things)


def words_in(things, number):
    """None if the pair isn't there whole, once, in order."""
    ends = [(kind, place) for place, (kind, other) in enumerate(things) if kind in (1, 2) and other == number]
    if [kind for kind, place in ends] != [1, 2]:
        return None
    return [word for kind, word in things[ends[0][1]:ends[1][1]] if kind == 0]


class Session:
    """Keeps all translations since the source, the newest last: an undo drops one."""

    NAMES = "source target faults mend would put take type within shows undo move".split()

    def __init__(self):
        self.tags, self.origin, self.past = [], [], [[]]

    def answer(self, call):
        return getattr(self, "answer_" + self.NAMES[call[0]])(*call[1:])

    def stand(self):
        return [len(self.past[-1]), len(faults(self.tags, self.past[-1]))]

    def become(self, things):
        self.past.append(things)
        return self.stand()

    def answer_source(self, length, *told):
        tags = tags_of(told[1:1 + 3 * told[0]])
        things = things_of(told[1 + 3 * told[0]:])
        numbers = {number for number, pair, needed in tags}
        if not in_range(things) or len(tags) > 6 or len(numbers) < len(tags) or max(numbers, default=0) > 99:
            return [-1]
        if not right([(number, pair, 1) for number, pair, needed in tags], things):
            return [-3]
        self.tags, self.origin, self.past = tags, things, [[]]
        return self.stand()

    def answer_target(self, length, *numbers):
        things = things_of(numbers)
        return self.become(things) if in_range(things) else [-1]

    def answer_faults(self):
        found = faults(self.tags, self.past[-1])
        return [len(found)] + flat(found)

    def answer_would(self):
        cost, things = mend(self.tags, self.past[-1])
        return [cost] + written(things)

    def answer_mend(self):
        cost, things = mend(self.tags, self.past[-1])
        if not fits(things):
            return [-5]
        self.become(things)
        return [cost] + written(things)

    def answer_put(self, spot, kind, number):
        things = list(self.past[-1])
        if spot > len(things) or number > 99:
            return [-1]
        things.insert(spot, (kind, number))
        return self.become(things) if fits(things) else [-5]

    def answer_take(self, spot):
        things = list(self.past[-1])
        if spot >= len(things):
            return [-1]
        if things.pop(spot)[0] == 0:
            return [-6]
        return self.become(things)

    def answer_move(self, spot, other):
        things = list(self.past[-1])
        if spot >= len(things):
            return [-1]
        moved = things.pop(spot)
        if moved[0] == 0:
            return [-6]
        if other > len(things):
            return [-1]
        things.insert(other, moved)
        return self.become(things)

    def answer_type(self, spot, many, length, *words):
        things = self.past[-1]
        if spot + many > len(things) or max(words, default=0) > 999:
            return [-1]
        made = []
        for place, thing in enumerate(things + [None]):
            if place == spot + many:
                made += [(0, word) for word in words]
            if thing and (thing[0] or not spot <= place < spot + many):
                made.append(thing)
        return self.become(made) if fits(made) else [-5]

    def answer_within(self, number):
        if (number, 1) not in [(tag[0], tag[1]) for tag in self.tags]:
            return [-2]
        here, there = words_in(self.origin, number), words_in(self.past[-1], number)
        if there is None:
            return [-6]
        return [len(here)] + here + [len(there)] + there

    def answer_shows(self):
        return written(self.past[-1])

    def answer_undo(self):
        if len(self.past) == 1:
            return [-7]
        self.past.pop()
        return self.stand()


class Draw(random.Random):
    """Draws calls that mostly are right, and now and then just beyond an edge or far beyond it."""

    def small(self, most):
        if self.randrange(25) == 0:
            return self.choice((most + 1, GREATEST, GREATEST - most))
        return self.randrange(most + 1)

    def word(self):
        return self.choice((0, 1, 2, 3, 5, 998, 999)) if self.randrange(60) else self.choice((1000, GREATEST))

    def tag_number(self):
        return self.randrange(4) if self.randrange(30) else self.choice((7, 99, 100, GREATEST))

    def thing(self, kinds=(0, 0, 1, 2, 3)):
        kind = self.choice(kinds)
        return (kind, self.tag_number() if kind else self.word())

    def row(self, numbers):
        return [len(numbers)] + numbers

    def source(self):
        numbers = self.sample(range(4), self.randrange(5))
        tags = [(number, self.randrange(4) > 0, self.randrange(2)) for number in numbers]
        things = []
        for number, pair, needed in tags:
            place = self.randrange(len(things) + 1)
            things[place:place] = [(1, number), (0, self.word()), (2, number)] if pair else [(3, number)]
        if self.randrange(6) == 0:
            things.insert(self.randrange(len(things) + 1), self.thing())
        told = [len(tags)] + [int(number) for number in flat(tags)] + flat(things)
        return [0] + self.row(told)

    def target(self):
        many, kinds = self.choice((
            (0, (0,)), (4, (0, 1, 2)), (6, (0, 1, 2, 3)), (8, (1, 2)), (9, (1, 2, 3)), (10, (0, 0, 0, 1, 2, 3)),
            (16, (0,)), (16, (0, 0, 0, 0, 0, 1, 2)), (17, (0, 0, 0, 3)),
        ))
        return [1] + self.row(flat([self.thing(kinds) for thing in range(many)]))

    def call(self, most):
        number = self.choice((0, 1, 1, 2, 3, 4, 5, 5, 5, 6, 6, 6, 7, 7, 7, 7, 8, 8, 8, 9, 10, 10, 10, 11, 11, 11))
        if number == 0:
            return self.source()
        if number == 1:
            return self.target()
        if number == 5:
            return [5, self.small(most), self.randint(1, 3), self.tag_number()]
        if number == 6:
            return [6, self.small(most)]
        if number == 7:
            spot = self.small(most)
            many = self.small(max(0, most - spot))
            words = [self.word() for word in range(self.choice((0, 0, 1, 2, 3, 9)))]
            return [7, spot, many] + self.row(words)
        if number == 8:
            return [8, self.tag_number()]
        if number == 11:
            return [11, self.small(most), self.small(max(0, most - 1))]
        return [number]


class AgainstTheDocument(unittest.TestCase):
    def test_drawn_lines(self):
        draw = Draw(11)
        seen = {}
        for line in range(3000):
            session = Session()
            calls = []
            expected = []
            for step in range(draw.choice((1, 5, 20, 40))):
                calls.append(draw.call(len(session.past[-1])) if calls else draw.source())
                expected.append(session.answer(calls[-1]))
                said = (calls[-1][0], min(0, expected[-1][0]))
                seen[said] = seen.get(said, 0) + 1
            self.assertEqual(ask(*calls), expected, calls)
        self.check_that_all_was_drawn(seen)

    def check_that_all_was_drawn(self, seen):
        answered = [(number, 0) for number in range(12)]
        refused = [(0, -1), (0, -3), (1, -1), (3, -5), (5, -1), (5, -5), (6, -1), (6, -6), (7, -1), (7, -5)]
        refused += [(8, -2), (8, -6), (10, -7), (11, -1), (11, -6)]
        self.assertEqual(sorted(seen), sorted(answered + refused))
        self.assertGreater(min(seen.values()), 20)

    def test_typing_takes_no_tag_away(self):
        draw = Draw(12)
        for line in range(3000):
            things = [thing for thing in [draw.thing() for place in range(10)] if thing[1] < 100]
            spot = draw.randrange(len(things) + 1)
            many = draw.randrange(len(things) - spot + 1)
            found = ask([1] + draw.row(flat(things)), [7, spot, many, 2, 8, 9], SHOWS)
            if len(found[0]) == 2:
                made = list(zip(found[2][1::2], found[2][2::2]))
                self.assertEqual([t for t in made if t[0]], [t for t in things if t[0]], (things, spot, many))

    def test_every_place_of_a_small_one(self):
        begin = [source("<1! =2!", "<1 5 1> =2"), target("7 <1 8 =2 1>")]
        for first in range(8):
            changes = [[6, first]]
            for second in range(8):
                changes += [[11, first, second], [7, first, second, 0], [7, first, second, 2, 3, 4]]
            for change in changes:
                calls = begin + [change, SHOWS, FAULTS, WOULD, MEND, [8, 1], UNDO, SHOWS, UNDO, SHOWS, UNDO, SHOWS]
                session = Session()
                self.assertEqual(ask(*calls), [session.answer(call) for call in calls], change)


if __name__ == "__main__":
    unittest.main()
