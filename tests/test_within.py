import unittest

from lines import (
    FAULTS, MEND, SHOWS, UNDO, ask, last, move, put, retype, shown, source, take, target, told, within,
)

TWO_PAIRS = source("<1! <2 =3", "4 <1 5 <2 6 2> =3 7 1> 8")


def stand(in_source, in_translation):
    """Both texts are of words alone."""
    both = [[int(word) for word in text.split()] for text in (in_source, in_translation)]
    return [len(both[0])] + both[0] + [len(both[1])] + both[1]


class WithinAnswers(unittest.TestCase):
    def check(self, text, number, in_source, in_translation):
        found = ask(TWO_PAIRS, target(text), within(number), SHOWS)
        self.assertEqual(found[2], stand(in_source, in_translation), text)
        self.assertEqual(found[3], shown(text))

    def test_words_within_in_order(self):
        self.check("10 <1 12 11 13 1> 14", 1, "5 6 7", "12 11 13")
        self.check("<1 9 1>", 1, "5 6 7", "9")

    def test_tags_and_words_within(self):
        self.check("<1 10 <2 11 2> 12 =3 1> 13", 1, "5 6 7", "10 11 12")
        self.check("<1 10 <2 11 2> 12 =3 1> 13", 2, "6", "11")

    def test_no_word_within(self):
        self.check("9 <1 1> 9", 1, "5 6 7", "")
        self.check("9 <1 <2 2> =3 1> 9", 1, "5 6 7", "")
        found = ask(source("<1", "5 <1 1> 6"), target("<1 7 8 1>"), within(1))
        self.assertEqual(found[2], [0, 2, 7, 8])
        found = ask(source("<1", "5 <1 1> 6"), target("<1 1>"), within(1))
        self.assertEqual(found[2], [0, 0])

    def test_one_that_is_not_needed(self):
        self.check("<2 9 2>", 2, "6", "9")

    def test_where_other_faults_are(self):
        self.check("<1 10 <2 11 1> 12 2>", 1, "5 6 7", "10 11")
        self.check("<1 10 <2 11 1> 12 2>", 2, "6", "11 12")
        self.check("<1 10 =1 <9 2> 11 1> =3 =3", 1, "5 6 7", "10 11")

    def test_words_like_the_pair(self):
        self.check("1 <1 1 1 1> 1", 1, "5 6 7", "1 1")
        found = ask(source("<0", "0 <0 0 0> 0"), target("0 0 <0 0 0 0> 0"), within(0))
        self.assertEqual(found[2], [1, 0, 2, 0, 0])

    def test_of_the_greatest_number(self):
        found = ask(source("<99", "<99 5 99>"), target("<99 6 99>"), within(99))
        self.assertEqual(found[2], stand("5", "6"))

    def test_of_fourteen_words(self):
        text = " ".join(str(word) for word in range(14))
        found = ask(source("<1", f"<1 {text} 1>"), target(f"<1 {text} 1>"), within(1))
        self.assertEqual(found[2], stand(text, text))

    def test_behind_other_changes(self):
        found = ask(
            TWO_PAIRS, put(0, "<1"), MEND, within(1), retype(1, 0, "10 11"), within(1), move(3, 1), within(1),
            UNDO, within(1), take(3), within(1),
        )
        self.assertEqual(found[3], stand("5 6 7", ""))
        self.assertEqual(found[5], stand("5 6 7", "10 11"))
        self.assertEqual(found[7], stand("5 6 7", ""))
        self.assertEqual(found[9], stand("5 6 7", "10 11"))
        self.assertEqual(found[11], [-6])

    def test_of_the_newest_source(self):
        found = ask(TWO_PAIRS, source("<2", "<2 40 41 2>"), target("<2 9 2>"), within(2), within(1))
        self.assertEqual(found[3:], [stand("40 41", "9"), [-2]])

    def test_behind_a_refused_source(self):
        found = ask(TWO_PAIRS, target("<2 9 2>"), source("<2", "<2 40 41"), within(2))
        self.assertEqual(found[2:], [[-3], stand("6", "9")])


class WithinRefused(unittest.TestCase):
    def test_no_such_pair(self):
        for number in (0, 4, 99, 100, 4294967295):
            self.assertEqual(last(TWO_PAIRS, target("<1 5 1>"), within(number)), [-2], number)

    def test_one_alone(self):
        self.assertEqual(last(TWO_PAIRS, target("=3"), within(3)), [-2])

    def test_a_pair_of_the_translation_alone(self):
        self.assertEqual(last(TWO_PAIRS, target("<7 5 7>"), within(7)), [-2])
        self.assertEqual(last(TWO_PAIRS, target("<3 5 3>"), within(3)), [-2])

    def test_before_any_source(self):
        self.assertEqual(last(within(0)), [-2])
        self.assertEqual(last(target("<1 5 1>"), within(1)), [-2])

    def test_not_there_whole_once_in_order(self):
        for text in (
            "", "5", "<1", "1>", "<1 5", "5 1>", "=1", "<2 5 2>",
            "<1 <1 5 1>", "<1 5 1> 1>", "<1 5 1> <1 6 1>", "<1 <1", "1> 1>", "1> <1 5 1>",
            "1> <1", "1> 5 <1",
        ):
            self.assertEqual(last(TWO_PAIRS, target(text), within(1)), [-6], text)

    def test_behind_a_new_source(self):
        self.assertEqual(last(TWO_PAIRS, within(1)), [-6])

    def test_of_several_the_one_told_first(self):
        self.assertEqual(last(TWO_PAIRS, target("7> <7"), within(7)), [-2])

    def test_all_is_as_it_was(self):
        for number, refusal in ((3, -2), (1, -6)):
            found = ask(TWO_PAIRS, target("1> 5 <1 =3"), within(number), SHOWS, FAULTS, UNDO, UNDO)
            self.assertEqual(found[2:], [[refusal], shown("1> 5 <1 =3"), told([5, 1, 0]), [0, 1], [-7]])


if __name__ == "__main__":
    unittest.main()
