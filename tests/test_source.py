import unittest

from lines import FAULTS, MEND, WOULD, ask, last, mended, put, source, target, told, words

FOUR_PAIRS = "<0! <1! <2 <3"
EIGHT_TAGS = "<0 <1 1> 0> <2 2> <3 3>"


class SourceAnswers(unittest.TestCase):
    def test_needed_tags_are_missing_at_first(self):
        self.assertEqual(last(source("<1! =2 =3!", "<1 7 1> =2 =3")), [0, 2])

    def test_no_tags_and_no_words(self):
        self.assertEqual(last(source("", "")), [0, 0])

    def test_words_of_the_source_are_not_the_translation(self):
        self.assertEqual(last(source("", "1 2 3")), [0, 0])

    def test_the_translation_has_nothing_then(self):
        found = ask(target("1 2 3"), source("=4", "=4 9"), WOULD)
        self.assertEqual(found, [[3, 0], [0, 0], mended(0, "")])

    def test_the_tags_told_before_are_gone(self):
        found = ask(source("=1!", "=1"), source("=2!", "=2"), target("=1 =2"), FAULTS)
        self.assertEqual(found[2:], [[2, 1], told([1, 1, 0])])

    def test_nested_and_neighbouring_pairs_are_as_told(self):
        self.assertEqual(last(source("<1! <2! <3!", "<3 <1 1> 3> <2 2>")), [0, 3])


class SourceOutOfRange(unittest.TestCase):
    def check(self, right, wrong, tags, also_tags=None):
        self.assertNotIn(-1, last(source(tags, right)))
        self.assertEqual(last(source(also_tags or tags, wrong)), [-1])

    def test_things(self):
        self.check(words(16), words(17), "")
        self.check("=1 " + words(15), "=1 " + words(16), "=1")

    def test_tags(self):
        self.check(EIGHT_TAGS, EIGHT_TAGS + " =4", FOUR_PAIRS, FOUR_PAIRS + " =4")

    def test_nine_tags_that_are_also_not_as_told(self):
        self.assertEqual(last(source("", "=1 " * 8)), [-3])
        self.assertEqual(last(source("", "=1 " * 9)), [-1])
        self.assertEqual(last(source("", "<1 " * 9)), [-1])
        self.assertEqual(last(source("", "1> " * 9)), [-1])

    def test_word(self):
        self.check("999", "1000", "")
        self.check("3 999", "3 4294967295", "")

    def test_tag_number(self):
        self.check("=99", "=100", "=99", "=100")
        self.check("<99 99>", "<100 100>", "<99!", "<100!")

    def test_tag_number_in_the_segment_alone(self):
        self.assertEqual(last(source("", "=99")), [-3])
        self.assertEqual(last(source("", "=100")), [-1])
        self.assertEqual(last(source("", "<100")), [-1])
        self.assertEqual(last(source("", "100>")), [-1])

    def test_tag_number_told_alone(self):
        self.assertEqual(last(source("=99", "")), [-3])
        self.assertEqual(last(source("=100", "")), [-1])
        self.assertEqual(last(source("=4294967295", "")), [-1])

    def test_tags_told(self):
        six = "=1 =2 =3 =4 =5 =6"
        self.check(six, six + " =7", six, six + " =7")

    def test_one_told_twice(self):
        self.assertEqual(last(source("=1 =2 =1", "=1 =2")), [-1])
        self.assertEqual(last(source("=1 =1", "=1 =1")), [-1])
        self.assertEqual(last(source("<1 =1", "<1 1> =1")), [-1])
        self.assertEqual(last(source("<1! <1", "<1 1>")), [-1])

    def test_a_word_like_a_tag_is_none(self):
        self.assertEqual(last(source("=1!", "1 =1 1")), [0, 1])


class SourceNotAsTold(unittest.TestCase):
    def check(self, tags, *texts):
        for text in texts:
            self.assertEqual(last(source(tags, text)), [-3], text)

    def test_a_tag_that_is_not_told(self):
        self.check("=1", "=1 =2", "=1 <2 2>", "=1 <1 1>", "<1 1>", "=1 <1")
        self.check("<1", "<1 1> =1", "=1")

    def test_missing_though_not_needed(self):
        self.check("=1", "", "5")
        self.check("<1", "", "5")
        self.check("<1 =2", "<1 1>", "=2")

    def test_half(self):
        self.check("<1!", "<1", "1>", "<1 5")

    def test_more_than_once(self):
        self.check("=1", "=1 =1", "=1 5 =1")
        self.check("<1", "<1 <1 1>", "<1 1> 1>", "<1 1> <1 1>")

    def test_closing_ahead(self):
        self.check("<1", "1> <1", "1> 5 <1")

    def test_crossing(self):
        self.check("<1 <2", "<1 <2 1> 2>", "<2 5 <1 2> 1>")

    def test_all_needed_is_not_kept(self):
        self.assertEqual(last(source("=1", "=1"), target("5")), [1, 0])


class SourceRefused(unittest.TestCase):
    def test_of_several_the_one_told_first(self):
        self.assertEqual(last(source("=1", "=2 1000")), [-1])
        self.assertEqual(last(source("=1 =1", "=2")), [-1])

    def test_all_is_as_it_was(self):
        before = [source("<1! =2", "<1 1> =2"), target("7 <1 8 1>")]
        wrong = [source("=9", "=9 1000"), source("=9 =9", "=9"), source("=9!", ""), source("", words(17))]
        for call in wrong:
            found = ask(*before, call, FAULTS, WOULD, put(0, "=2"), target(""))
            self.assertEqual(len(found[2]), 1)
            self.assertLess(found[2][0], 0)
            self.assertEqual(found[3:], [told(), mended(0, "7 <1 8 1>"), [5, 0], [0, 1]])

    def test_a_refused_first_source_leaves_no_tags(self):
        found = ask(source("=1!", ""), FAULTS, target("=1"), MEND)
        self.assertEqual(found, [[-3], told(), [1, 1], mended(1, "")])


if __name__ == "__main__":
    unittest.main()
