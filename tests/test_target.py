import unittest

from lines import FAULTS, WOULD, ask, last, mended, source, target, told, words


class TargetAnswers(unittest.TestCase):
    def test_how_it_stands(self):
        self.assertEqual(last(source("<1! =2!", "<1 1> =2"), target("4 <1 5 1>")), [4, 1])

    def test_nothing(self):
        self.assertEqual(ask(target("1 2"), target(""), WOULD), [[2, 0], [0, 0], mended(0, "")])

    def test_without_a_source(self):
        self.assertEqual(last(target("1 2 3")), [3, 0])
        self.assertEqual(last(target("1 =3 <3 =4")), [4, 2])

    def test_it_takes_the_place_of_the_one_before(self):
        self.assertEqual(ask(target("1 2 3"), target("4"), WOULD)[2], mended(0, "4"))

    def test_the_source_stays(self):
        found = ask(source("=1!", "=1"), target("=1"), target("5"), FAULTS)
        self.assertEqual(found[3], told([3, 1, 0]))


class TargetRefused(unittest.TestCase):
    def test_things(self):
        self.assertEqual(last(target(words(16))), [16, 0])
        self.assertEqual(last(target(words(17))), [-1])
        self.assertEqual(last(target(words(50))), [-1])
        self.assertEqual(last(target(words(9) + " <1" * 7)), [16, 1])
        self.assertEqual(last(target(words(10) + " <1" * 7)), [-1])

    def test_tags(self):
        for sign in ("<1", "1>", "=1"):
            self.assertEqual(last(target(" ".join([sign] * 8))), [8, 1])
            self.assertEqual(last(target(" ".join([sign] * 9))), [-1])
        self.assertEqual(last(target("<1 1> =1 <2 2> =2 <3 3>")), [8, 3])
        self.assertEqual(last(target("<1 1> =1 <2 2> =2 <3 3> =3")), [-1])

    def test_word(self):
        self.assertEqual(last(target("0 999")), [2, 0])
        self.assertEqual(last(target("0 1000")), [-1])
        self.assertEqual(last(target("4294967295 0")), [-1])

    def test_tag_number(self):
        for right, wrong in (("<99", "<100"), ("99>", "100>"), ("=99", "=100"), ("=0", "=4294967295")):
            self.assertEqual(last(target(right)), [1, 1])
            self.assertEqual(last(target(wrong)), [-1])

    def test_all_is_as_it_was(self):
        for wrong in (words(17), "=1 " * 9, "1000", "=100"):
            found = ask(source("=1!", "=1"), target("6 =1 7"), target(wrong), FAULTS, WOULD)
            self.assertEqual(found[2:], [[-1], told(), mended(0, "6 =1 7")])


if __name__ == "__main__":
    unittest.main()
