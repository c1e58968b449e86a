import unittest

from lines import FAULTS, ask, last, source, target, told


class Faults(unittest.TestCase):
    def check(self, tags, source_text, text, *faults):
        found = ask(source(tags, source_text), target(text), FAULTS)
        self.assertEqual(found[2], told(*faults), text)
        self.assertEqual(found[1], [len(text.split()), len(faults)], text)


class NoFaults(Faults):
    def test_at_the_beginning(self):
        self.assertEqual(last(FAULTS), [0])

    def test_right_ones(self):
        tags, text = "<1! <2 =3! =4", "<1 <2 2> 1> =3 =4"
        for right in (
            "<1 1> =3",
            "=3 9 <1 8 1>",
            "<1 <2 2> 1> =3",
            "<2 <1 1> 2> =3 =4",
            "<2 2> <1 1> =4 =3",
            "<1 1> <2 =3 2>",
            "<1 =3 1> 1 2 3 4",
        ):
            self.check(tags, text, right)

    def test_words_like_tags(self):
        self.check("=3!", "=3", "3 3 =3 3")


class StrangeTags(Faults):
    def test_numbers_not_told(self):
        self.check("=1", "=1", "<7", [1, 7, 0])
        self.check("=1", "=1", "7>", [1, 7, 0])
        self.check("=1", "=1", "=7", [1, 7, 0])

    def test_each_number_once_as_they_come_first(self):
        self.check("=1", "=1", "=9 <7 =8 7> =9 =7", [1, 9, 0], [1, 7, 0], [1, 8, 0])

    def test_a_pair_as_one_alone(self):
        self.check("<1", "<1 1>", "=1", [1, 1, 0])
        self.check("<1!", "<1 1>", "=1", [1, 1, 0], [3, 1, 0])
        self.check("<1!", "<1 1>", "<1 =1 1>", [1, 1, 0])

    def test_one_alone_as_a_pair(self):
        self.check("=1", "=1", "<1 1>", [1, 1, 0])
        self.check("=1", "=1", "1>", [1, 1, 0])
        self.check("=1!", "=1", "<1 =1 1>", [1, 1, 0])

    def test_where_it_comes_first_as_a_strange_one(self):
        self.check("<1", "<1 1>", "<1 =7 =1 1>", [1, 7, 0], [1, 1, 0])

    def test_ahead_of_all_others(self):
        self.check("=1!", "=1", "5 =9", [1, 9, 0], [3, 1, 0])


class FaultsOfPairs(Faults):
    def test_more_than_once(self):
        for text in ("<1 <1 1>", "<1 1> 1>", "<1 1> <1 1>", "<1 <1", "1> 1>", "1> 1> <1", "<1 <1 <1"):
            self.check("<1!", "<1 1>", text, [2, 1, 0])
            self.check("<1", "<1 1>", text, [2, 1, 0])

    def test_missing(self):
        self.check("<1!", "<1 1>", "5", [3, 1, 0])
        self.check("<1", "<1 1>", "5")

    def test_half(self):
        for text in ("<1", "1>", "5 <1 6"):
            self.check("<1!", "<1 1>", text, [4, 1, 0])
            self.check("<1", "<1 1>", text, [4, 1, 0])

    def test_closing_ahead(self):
        self.check("<1!", "<1 1>", "1> <1", [5, 1, 0])
        self.check("<1", "<1 1>", "1> 5 5 <1", [5, 1, 0])

    def test_crossing(self):
        self.check("<1 <2", "<1 1> <2 2>", "<1 <2 1> 2>", [6, 1, 2])
        self.check("<1 <2", "<1 1> <2 2>", "<2 <1 2> 1>", [6, 2, 1])
        self.check("<2 <1", "<1 1> <2 2>", "5 <1 6 <2 7 1> 8 2>", [6, 1, 2])

    def test_crossing_several(self):
        self.check("<3 <1 <2", "<1 1> <2 2> <3 3>", "<1 <2 <3 1> 2> 3>", [6, 1, 3], [6, 1, 2], [6, 2, 3])
        self.check("<1 <2 <3", "<1 1> <2 2> <3 3>", "<3 <2 <1 3> 2> 1>", [6, 2, 1], [6, 3, 1], [6, 3, 2])
        self.check("<1 <2 <3", "<1 1> <2 2> <3 3>", "<1 <2 1> <3 2> 3>", [6, 1, 2], [6, 2, 3])

    def test_no_crossing_with_one_that_is_not_whole(self):
        pairs = "<1 1> <2 2>"
        self.check("<1 <2", pairs, "<1 <2 1>", [4, 2, 0])
        self.check("<1 <2", pairs, "<1 1> 2>", [4, 2, 0])
        self.check("<1 <2", pairs, "<1 <2 1> 2> 2>", [2, 2, 0])
        self.check("<1 <2", pairs, "<1 <2 <2 1> 2>", [2, 2, 0])
        self.check("<1 <2", pairs, "<1 <1 <2 1> 2>", [2, 1, 0])

    def test_no_crossing_with_one_whose_closing_is_ahead(self):
        pairs = "<1 1> <2 2>"
        self.check("<1 <2", pairs, "<1 2> 1> <2", [5, 2, 0])
        self.check("<1 <2", pairs, "2> <1 <2 1>", [5, 2, 0])
        self.check("<1 <2", pairs, "1> <2 <1 2>", [5, 1, 0])

    def test_no_crossing_with_one_that_is_no_pair_of_the_source(self):
        self.check("<1 =2", "<1 1> =2", "<1 <2 1> 2>", [1, 2, 0])
        self.check("<1", "<1 1>", "<1 <2 1> 2>", [1, 2, 0])

    def test_one_within_another_does_not_cross(self):
        self.check("<1 <2", "<1 1> <2 2>", "<1 <2 2> 1>")
        self.check("<1 <2", "<1 1> <2 2>", "<2 2> <1 1>")


class FaultsOfOnesAlone(Faults):
    def test_more_than_once(self):
        self.check("=1!", "=1", "=1 =1", [2, 1, 0])
        self.check("=1", "=1", "=1 5 =1 =1", [2, 1, 0])

    def test_missing(self):
        self.check("=1!", "=1", "5", [3, 1, 0])
        self.check("=1", "=1", "5")


class SeveralFaults(Faults):
    def test_as_the_source_tells_them(self):
        self.check("=2! <1!", "<1 1> =2", "", [3, 2, 0], [3, 1, 0])
        self.check("<1! =2!", "=2 <1 1>", "", [3, 1, 0], [3, 2, 0])

    def test_all_at_once(self):
        self.check(
            "=6! <5 <4! <2 =3",
            "<2 2> =3 <4 4> <5 5> =6",
            "=9 <2 <4 2> 4> =3 =3 <5",
            [1, 9, 0], [3, 6, 0], [4, 5, 0], [6, 2, 4], [2, 3, 0],
        )

    def test_one_of_each_pair_fault(self):
        self.check(
            "<0! <1 <2! =3!",
            "<0 0> <1 1> <2 2> =3",
            "1> <1 <2 <2 =8 2>",
            [1, 8, 0], [3, 0, 0], [5, 1, 0], [2, 2, 0], [3, 3, 0],
        )

    def test_faults_changes_nothing(self):
        found = ask(source("=1!", "=1"), target("=2"), FAULTS, FAULTS, FAULTS)
        self.assertEqual(found[2], told([1, 2, 0], [3, 1, 0]))
        self.assertEqual(found[2], found[3])
        self.assertEqual(found[3], found[4])


if __name__ == "__main__":
    unittest.main()
