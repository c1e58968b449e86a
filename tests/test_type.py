import unittest

from lines import FAULTS, SHOWS, UNDO, ask, last, retype, shown, source, target, told, words

GREATEST = 4294967295


class TypeAnswers(unittest.TestCase):
    def check(self, text, spot, many, new, result):
        found = ask(target(text), retype(spot, many, new), SHOWS)
        self.assertEqual(found[2], shown(result), (text, spot, many, new))
        self.assertEqual(found[1][0], len(result.split()))

    def test_words_for_words(self):
        self.check("1 2 3 4", 1, 2, "7 8 9", "1 7 8 9 4")
        self.check("1 2 3 4", 0, 1, "7", "7 2 3 4")

    def test_nothing_goes(self):
        for spot, result in enumerate(("7 8 1 =5 2", "1 7 8 =5 2", "1 =5 7 8 2", "1 =5 2 7 8")):
            self.check("1 =5 2", spot, 0, "7 8", result)
        self.check("", 0, 0, "7 8", "7 8")

    def test_nothing_comes(self):
        self.check("1 2 3 4", 1, 2, "", "1 4")
        self.check("1 <5 2 5> 3", 0, 5, "", "<5 5>")

    def test_nothing_goes_and_nothing_comes(self):
        self.check("1 =5 2", 1, 0, "", "1 =5 2")
        self.check("1 =5 2", 3, 0, "", "1 =5 2")
        self.check("", 0, 0, "", "")

    def test_tags_stay_in_order_ahead_of_the_new_words(self):
        self.check("1 <5 2 =6 3 5> 4", 1, 5, "7 8", "1 <5 =6 5> 7 8 4")
        self.check("1 5> 2 <5 3", 0, 4, "7", "5> <5 7 3")
        self.check("1 =6 =5 =6 2", 1, 3, "7", "1 =6 =5 =6 7 2")

    def test_tags_around_stay_where_they_are(self):
        self.check("<5 1 2 5> =6", 1, 2, "7", "<5 7 5> =6")
        self.check("=6 <5 1 5> =4", 2, 2, "7", "=6 <5 5> 7 =4")

    def test_over_tags_alone(self):
        self.check("1 <5 5> 2", 1, 2, "7", "1 <5 5> 7 2")

    def test_up_to_the_very_end(self):
        self.check("1 2 3", 1, 2, "7", "1 7")
        self.check("1 2 =3", 2, 1, "7", "1 2 =3 7")
        self.check("1 2 3", 0, 3, "7", "7")

    def test_words_like_tags_and_calls(self):
        self.check("1 =2 2 =3", 1, 2, "0 1 2 3 7 11", "1 =2 0 1 2 3 7 11 =3")

    def test_how_it_stands(self):
        found = ask(source("<1! =2!", "<1 1> =2"), target("<1 5 1> 6"), retype(0, 4, "7"), FAULTS)
        self.assertEqual(found[1:], [[4, 1], [3, 1], told([3, 2, 0])])


class TypeRefused(unittest.TestCase):
    def test_beyond_the_end(self):
        for spot, many in ((0, 4), (1, 3), (2, 2), (3, 1), (4, 0), (GREATEST, 0), (0, GREATEST), (3, GREATEST)):
            self.assertEqual(last(target("1 =2 3"), retype(spot, many, "7")), [-1], (spot, many))
            self.assertEqual(last(target("1 =2 3"), retype(spot, many)), [-1], (spot, many))
        self.assertEqual(last(target("1 =2 3"), retype(GREATEST, GREATEST, "7")), [-1])
        # Together one more than there are numbers: what comes round to 0 would be within.
        self.assertEqual(last(target("1 =2 3"), retype(1, GREATEST, "7")), [-1])
        self.assertEqual(last(retype(0, 1)), [-1])
        self.assertEqual(last(retype(1, 0)), [-1])

    def test_a_word_above_999(self):
        self.assertEqual(last(target("1 2"), retype(1, 1, "999 0")), [3, 0])
        for new in ("1000", "5 1000", "1000 5", str(GREATEST)):
            self.assertEqual(last(target("1 2"), retype(1, 1, new)), [-1], new)

    def test_more_than_sixteen_things(self):
        self.assertEqual(last(retype(0, 0, words(16))), [16, 0])
        self.assertEqual(last(retype(0, 0, words(17))), [-5])
        self.assertEqual(last(retype(0, 0, words(100))), [-5])
        self.assertEqual(last(target(words(16)), retype(4, 2, "7 8")), [16, 0])
        self.assertEqual(last(target(words(16)), retype(4, 2, "7 8 9")), [-5])
        self.assertEqual(last(target(words(15)), retype(15, 0, "7")), [16, 0])
        self.assertEqual(last(target(words(15)), retype(15, 0, "7 8")), [-5])

    def test_tags_that_stay_leave_no_room(self):
        self.assertEqual(last(target("=1 =2 " + words(14)), retype(0, 3, "7")), [16, 2])
        self.assertEqual(last(target("=1 =2 " + words(14)), retype(0, 3, "7 8")), [-5])
        self.assertEqual(last(target("=1 " * 8), retype(0, 8, words(8))), [16, 1])
        self.assertEqual(last(target("=1 " * 8), retype(0, 8, words(9))), [-5])

    def test_of_several_the_one_told_first(self):
        self.assertEqual(last(target(words(16)), retype(17, 0, "7")), [-1])
        self.assertEqual(last(target(words(16)), retype(16, 1, "7")), [-1])
        self.assertEqual(last(target(words(16)), retype(16, 0, "1000")), [-1])

    def test_all_is_as_it_was(self):
        for call, refusal in (
            (retype(4, 0, "7"), -1),
            (retype(1, 3, "7"), -1),
            (retype(1, 1, "1000"), -1),
            (retype(1, 1, words(15)), -5),
        ):
            found = ask(source("=1! =2", "=1 =2"), target("=1 5 =2"), call, SHOWS, FAULTS, UNDO, UNDO)
            self.assertEqual(found[2:], [[refusal], shown("=1 5 =2"), told(), [0, 1], [-7]])


if __name__ == "__main__":
    unittest.main()
