import unittest

from lines import FAULTS, MEND, WOULD, ask, mended, put, source, target, told, words


class Mended(unittest.TestCase):
    def check(self, tags, source_text, text, cost, result):
        found = ask(
            source(tags, source_text), target(text), WOULD, FAULTS, MEND, FAULTS, WOULD,
        )
        self.assertEqual(found[2], mended(cost, result), text)
        self.assertEqual(found[3][0], found[1][1], text)
        self.assertEqual(found[4], mended(cost, result), text)
        self.assertEqual(found[5], told(), text)
        self.assertEqual(found[6], mended(0, result), text)


class WhatIsKept(Mended):
    def test_what_is_right(self):
        self.check("<1! =2", "<1 1> =2", "5 <1 6 =2 1> 7", 0, "5 <1 6 =2 1> 7")
        self.check("<1 =2", "<1 1> =2", "5", 0, "5")

    def test_without_a_source(self):
        self.assertEqual(ask(MEND, WOULD), [mended(0, ""), mended(0, "")])
        self.assertEqual(ask(target("5 =1 6 <2"), MEND)[1], mended(2, "5 6"))

    def test_strange_ones_go(self):
        self.check("<1 =2", "<1 1> =2", "=1 5 <2 =9 6 2> =2", 4, "5 6 =2")

    def test_tags_and_words_of_the_number_0(self):
        self.check("<1", "<1 1>", "0 =0 0 <0 0> 0", 3, "0 0 0")
        self.check("<0! =1", "<0 0> =1", "0 0> 0 <0 0 0> =0", 2, "0 0 <0 0 0>")

    def test_the_first_of_those_alone_that_stand_there_twice(self):
        self.check("=1!", "=1", "5 =1 6 =1 7 =1", 2, "5 =1 6 7")

    def test_the_first_of_openings_and_of_closings(self):
        self.check("<1!", "<1 1>", "<1 5 <1 6 1>", 1, "<1 5 6 1>")
        self.check("<1!", "<1 1>", "<1 5 1> 6 1>", 1, "<1 5 1> 6")
        self.check("<1!", "<1 1>", "1> 5 <1 6 1>", 1, "5 <1 6 1>")

    def test_words_stay_in_order(self):
        self.check("=1!", "=1", "999 0 =1 3 =1 3", 1, "999 0 =1 3 3")


class Completed(Mended):
    def test_an_opening_gets_its_closing_right_behind(self):
        self.check("<1!", "<1 1>", "5 <1 6 7", 1, "5 <1 1> 6 7")

    def test_a_closing_gets_its_opening_right_ahead(self):
        self.check("<1!", "<1 1>", "5 6 1> 7", 1, "5 6 <1 1> 7")

    def test_half_ones_side_by_side(self):
        self.check("<1! <2!", "<1 1> <2 2>", "<1 <2 5", 2, "<1 1> <2 2> 5")
        self.check("<1! <2!", "<1 1> <2 2>", "5 1> 2>", 2, "5 <1 1> <2 2>")
        self.check("<1! <2!", "<1 1> <2 2>", "<1 2>", 2, "<1 1> <2 2>")

    def test_a_half_one_that_is_not_needed_stays_at_the_same_cost(self):
        self.check("<1", "<1 1>", "5 <1 6", 1, "5 <1 1> 6")
        self.check("<1", "<1 1>", "5 1> 6", 1, "5 <1 1> 6")

    def test_needed_ones_come_at_the_end_as_the_source_tells_them(self):
        self.check("=3! <1! <2 =4", "<1 1> <2 2> =3 =4", "5 6", 3, "5 6 =3 <1 1>")
        self.check("<1! =3!", "=3 <1 1>", "5 6", 3, "5 6 <1 1> =3")

    def test_needed_ones_come_behind_what_is_completed(self):
        self.check("=3! <1!", "<1 1> =3", "5 <1", 2, "5 <1 1> =3")

    def test_of_an_empty_translation(self):
        self.check("<2! =1! <3", "=1 <2 2> <3 3>", "", 3, "<2 2> =1")


class Crossing(Mended):
    PAIRS = "<1 1> <2 2>"

    def test_two(self):
        # Without the closing that comes last its pair is completed at its opening.
        self.check("<1! <2!", self.PAIRS, "<1 5 <2 6 1> 7 2>", 2, "<1 5 <2 2> 6 1> 7")

    def test_two_of_which_one_is_not_needed(self):
        self.check("<1! <2", self.PAIRS, "<1 5 <2 6 1> 7 2>", 2, "<1 5 <2 2> 6 1> 7")
        self.check("<1 <2!", self.PAIRS, "<1 5 <2 6 1> 7 2>", 2, "<1 5 <2 2> 6 1> 7")

    def test_two_of_which_none_is_needed(self):
        self.check("<1 <2", self.PAIRS, "<2 5 <1 6 2> 7 1>", 2, "<2 5 <1 1> 6 2> 7")

    def test_three(self):
        self.check(
            "<1! <2! <3!", "<1 1> <2 2> <3 3>", "<1 <2 <3 1> 2> 3>", 4, "<1 <2 2> <3 3> 1>",
        )

    def test_one_that_crosses_two(self):
        self.check(
            "<1! <2! <3!", "<1 1> <2 2> <3 3>", "<2 5 <3 6 <1 7 3> 8 2> 9 1>", 2, "<2 5 <3 6 <1 1> 7 3> 8 2> 9",
        )


class ClosingAhead(Mended):
    def test_a_needed_pair(self):
        self.check("<1!", "<1 1>", "1> 5 <1", 2, "<1 1> 5")

    def test_one_that_is_not_needed(self):
        self.check("<1", "<1 1>", "1> 5 <1", 2, "<1 1> 5")


class SeveralAtTheSameCost(Mended):
    def test_at_the_first_tag_that_just_one_keeps(self):
        self.check("=1! =2!", "=1 =2", "=2 =1 5 =2 =1", 2, "=2 =1 5")

    def test_the_first_opening_rather_than_the_nearer_one(self):
        self.check("<1!", "<1 1>", "<1 5 <1 6 1> 7 1>", 2, "<1 5 6 1> 7")

    def test_a_half_one_is_kept_rather_than_taken_out(self):
        self.check("<1 <2", "<1 1> <2 2>", "1> <2 5 2> 6", 1, "<1 1> <2 5 2> 6")

    def test_the_closing_ahead_rather_than_either_of_two_others(self):
        self.check("<1! <2!", "<1 1> <2 2>", "1> <2 <1 2> 1>", 3, "<1 1> <2 2>")

    def test_cheaper_goes_ahead_of_first(self):
        self.check("<1", "<1 1>", "1> 5 <1 6 1>", 1, "5 <1 6 1>")
        self.check("<1!", "<1 1>", "1> 5 <1 6 1>", 1, "5 <1 6 1>")


class TooMuch(unittest.TestCase):
    def test_sixteen_things(self):
        found = ask(source("=1!", "=1"), target(words(15)), WOULD, MEND)
        self.assertEqual(found[2:], [mended(1, words(15) + " =1")] * 2)

    def test_more_than_sixteen_things(self):
        full = words(16) + " =1"
        found = ask(source("=1!", "=1"), target(words(16)), WOULD, MEND, FAULTS, WOULD, put(0, "=1"))
        self.assertEqual(found[2:], [mended(1, full), [-5], told([3, 1, 0]), mended(1, full), [-5]])

    def test_many_more_than_sixteen_things(self):
        tags, text = "<1! <2! <3! <4!", "<1 1> <2 2> <3 3> <4 4>"
        found = ask(source(tags, text), target(words(16)), WOULD, MEND, WOULD)
        full = mended(8, words(16) + " " + text)
        self.assertEqual(found[2:], [full, [-5], full])

    def test_what_is_taken_out_makes_room(self):
        found = ask(source("=1! =2!", "=1 =2"), target(words(14) + " =1 =1"), MEND)
        self.assertEqual(found[2], mended(2, words(14) + " =1 =2"))

    def test_the_one_that_costs_least_is_refused_though_another_would_have_room(self):
        # Taken out, the opening would leave room; kept and completed it costs the same and is preferred.
        found = ask(source("<1", "<1 1>"), target(words(15) + " <1"), WOULD, MEND, FAULTS)
        self.assertEqual(found[2:], [mended(1, words(15) + " <1 1>"), [-5], told([4, 1, 0])])

    def test_eight_tags(self):
        # More can't be: a right translation has each of the source's tags at most once.
        tags, text = "<1! <2! <3! <4!", "<1 1> <2 2> <3 3> <4 4>"
        found = ask(source(tags, text), target("1> 2> 3> 4> =9 =9 =9 =9"), WOULD, MEND)
        self.assertEqual(found[1:], [[8, 5], mended(8, text), mended(8, text)])


class WouldDoesNothing(unittest.TestCase):
    def test_the_translation_stays(self):
        found = ask(source("=1!", "=1"), target("=2 5"), WOULD, FAULTS, put(2, "=1"))
        self.assertEqual(found[2:], [mended(2, "5 =1"), told([1, 2, 0], [3, 1, 0]), [3, 1]])

    def test_mend_does(self):
        found = ask(source("=1!", "=1"), target("=2 5"), MEND, FAULTS, put(2, "=1"), FAULTS)
        self.assertEqual(found[2:], [mended(2, "5 =1"), told(), [3, 1], told([2, 1, 0])])


if __name__ == "__main__":
    unittest.main()
