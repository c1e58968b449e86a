import unittest

from lines import FAULTS, SHOWS, UNDO, ask, last, move, shown, source, target, told, words

GREATEST = 4294967295


class MoveAnswers(unittest.TestCase):
    def check(self, text, spot, other, result):
        found = ask(target(text), move(spot, other), SHOWS)
        self.assertEqual(found[2], shown(result), (text, spot, other))

    def test_so_many_of_the_others_ahead(self):
        for other, result in enumerate(("=1 5 6 7", "5 =1 6 7", "5 6 =1 7", "5 6 7 =1")):
            for spot, text in enumerate(("=1 5 6 7", "5 =1 6 7", "5 6 =1 7", "5 6 7 =1")):
                self.check(text, spot, other, result)

    def test_over_other_tags(self):
        self.check("<1 5 1> =2", 3, 0, "=2 <1 5 1>")
        self.check("<1 5 1> =2", 0, 3, "5 1> =2 <1")
        self.check("<1 5 1> =2", 2, 3, "<1 5 =2 1>")

    def test_the_only_thing(self):
        self.check("=1", 0, 0, "=1")

    def test_how_it_stands(self):
        found = ask(source("<1!", "<1 1>"), target("1> 5 <1"), move(0, 1), FAULTS, move(1, 2), FAULTS, SHOWS)
        self.assertEqual(found[1:], [[3, 1], [3, 1], told([5, 1, 0]), [3, 0], told(), shown("5 <1 1>")])
        found = ask(source("<1!", "<1 1>"), target("1> 5 <1"), move(2, 0), FAULTS, SHOWS)
        self.assertEqual(found[2:], [[3, 0], told(), shown("<1 1> 5")])

    def test_where_there_is_no_more_room(self):
        full = "=1 " + words(15)
        self.check(full, 0, 15, words(15) + " =1")
        self.check("=1 =2 =3 =4 =5 =6 =7 =8", 0, 7, "=2 =3 =4 =5 =6 =7 =8 =1")


class MoveRefused(unittest.TestCase):
    def test_nothing_at_that_place(self):
        self.assertEqual(last(move(0, 0)), [-1])
        for spot in (3, 4, 16, GREATEST):
            self.assertEqual(last(target("=1 5 =2"), move(spot, 0)), [-1], spot)
        self.assertEqual(last(target("=1 5 =2"), move(2, 0)), [3, 2])

    def test_a_word(self):
        for spot in (0, 2):
            self.assertEqual(last(target("0 =1 999"), move(spot, 1)), [-6], spot)

    def test_beyond_the_end_of_the_others(self):
        for spot in (0, 2):
            self.assertEqual(last(target("=1 5 =2"), move(spot, 2)), [3, 2], spot)
            for other in (3, 4, GREATEST):
                self.assertEqual(last(target("=1 5 =2"), move(spot, other)), [-1], (spot, other))
        self.assertEqual(last(target("=1"), move(0, 1)), [-1])

    def test_of_several_the_one_told_first(self):
        for other in (3, GREATEST):
            self.assertEqual(last(target("=1 5 =2"), move(1, other)), [-6], other)
            self.assertEqual(last(target("=1 5 =2"), move(3, other)), [-1], other)

    def test_all_is_as_it_was(self):
        for spot, other, refusal in ((1, 0, -6), (3, 0, -1), (0, 3, -1), (1, 3, -6), (GREATEST, GREATEST, -1)):
            found = ask(
                source("=1! =2", "=1 =2"), target("=1 5 =2"), move(spot, other), SHOWS, FAULTS, UNDO, UNDO,
            )
            self.assertEqual(found[2:], [[refusal], shown("=1 5 =2"), told(), [0, 1], [-7]])


if __name__ == "__main__":
    unittest.main()
