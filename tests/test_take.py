import unittest

from lines import FAULTS, SHOWS, UNDO, ask, last, shown, source, take, target, told

GREATEST = 4294967295


class TakeAnswers(unittest.TestCase):
    def test_the_tag_with_so_many_things_ahead(self):
        for spot, text in ((0, "5 =2 6 1>"), (2, "<1 5 6 1>"), (4, "<1 5 =2 6")):
            found = ask(target("<1 5 =2 6 1>"), take(spot), SHOWS)
            self.assertEqual(found[2], shown(text), spot)

    def test_how_it_stands(self):
        found = ask(source("<1! =2", "<1 1> =2"), target("<1 5 =2 1>"), take(2), take(2), take(0), FAULTS)
        self.assertEqual(found[1:], [[4, 0], [3, 0], [2, 1], [1, 1], told([3, 1, 0])])

    def test_one_that_the_source_has_not(self):
        found = ask(source("=1", "=1"), target("=1 =7"), take(1), FAULTS)
        self.assertEqual(found[1:], [[2, 1], [1, 0], told()])

    def test_one_of_those_that_are_alike(self):
        found = ask(source("=1", "=1"), target("=1 5 =1 6 =1"), take(2), SHOWS)
        self.assertEqual(found[2:], [[4, 1], shown("=1 5 6 =1")])

    def test_the_only_thing(self):
        self.assertEqual(ask(target("=1"), take(0), SHOWS)[1:], [[0, 0], shown("")])


class TakeRefused(unittest.TestCase):
    def test_nothing_at_that_place(self):
        self.assertEqual(last(take(0)), [-1])
        for spot in (3, 4, 16, GREATEST):
            self.assertEqual(last(target("=1 5 =2"), take(spot)), [-1], spot)
        self.assertEqual(last(target("=1 5 =2"), take(2)), [2, 1])

    def test_a_word(self):
        for spot in (0, 2):
            self.assertEqual(last(target("0 =1 999"), take(spot)), [-6], spot)

    def test_all_is_as_it_was(self):
        for spot, refusal in ((1, -6), (3, -1), (GREATEST, -1)):
            found = ask(source("=1! =2", "=1 =2"), target("=1 5 =2"), take(spot), SHOWS, FAULTS, UNDO, UNDO)
            self.assertEqual(found[2:], [[refusal], shown("=1 5 =2"), told(), [0, 1], [-7]])


if __name__ == "__main__":
    unittest.main()
