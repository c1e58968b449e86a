import unittest

from lines import FAULTS, WOULD, ask, last, mended, put, source, target, told, words


class PutAnswers(unittest.TestCase):
    def test_so_many_things_ahead(self):
        for spot, text in enumerate(("=1 5 6 7", "5 =1 6 7", "5 6 =1 7", "5 6 7 =1")):
            found = ask(source("=1!", "=1"), target("5 6 7"), put(spot, "=1"), WOULD)
            self.assertEqual(found[2:], [[4, 0], mended(0, text)])

    def test_into_nothing(self):
        self.assertEqual(last(put(0, "=1")), [1, 1])

    def test_each_kind(self):
        found = ask(source("<1!", "<1 1>"), target("5"), put(1, "1>"), put(0, "<1"), WOULD, put(3, "=1"), FAULTS)
        self.assertEqual(found[2:], [[2, 1], [3, 0], mended(0, "<1 5 1>"), [4, 1], told([1, 1, 0])])

    def test_one_that_the_source_has_not(self):
        found = ask(source("=1", "=1"), put(0, "=2"), put(0, "<1"), FAULTS)
        self.assertEqual(found[1:], [[1, 1], [2, 2], told([1, 1, 0], [1, 2, 0])])

    def test_numbers_like_those_of_calls(self):
        for number in range(13):
            self.assertEqual(ask(put(0, f"={number}"), FAULTS), [[1, 1], told([1, number, 0])])

    def test_one_more_than_once(self):
        found = ask(source("=1", "=1"), put(0, "=1"), put(1, "=1"), FAULTS)
        self.assertEqual(found[1:], [[1, 0], [2, 1], told([2, 1, 0])])


class PutRefused(unittest.TestCase):
    def test_beyond_the_end(self):
        self.assertEqual(last(target("5 6"), put(2, "=1")), [3, 1])
        self.assertEqual(last(target("5 6"), put(3, "=1")), [-1])
        self.assertEqual(last(target("5 6"), put(4294967295, "=1")), [-1])
        self.assertEqual(last(put(1, "=1")), [-1])

    def test_not_such_a_tag(self):
        for right, wrong in (("<99", "<100"), ("99>", "100>"), ("=99", "=100"), ("=0", "=4294967295")):
            self.assertEqual(last(put(0, right)), [1, 1])
            self.assertEqual(last(put(0, wrong)), [-1])

    def test_more_than_sixteen_things(self):
        self.assertEqual(last(target(words(15)), put(0, "=1")), [16, 1])
        self.assertEqual(last(target(words(16)), put(0, "=1")), [-5])

    def test_more_than_eight_tags(self):
        self.assertEqual(last(target("=1 " * 7), put(7, "<2")), [8, 2])
        self.assertEqual(last(target("=1 " * 8), put(8, "<2")), [-5])
        self.assertEqual(last(target("5 <1 2> =1 <1 2> =1 <1 2>"), put(0, "2>")), [-5])

    def test_of_several_the_one_told_first(self):
        self.assertEqual(last(target(words(16)), put(17, "=1")), [-1])
        self.assertEqual(last(target(words(16)), put(0, "=100")), [-1])
        self.assertEqual(last(target("=1 " * 8), put(9, "=1")), [-1])
        self.assertEqual(last(target("=1 " * 8), put(0, "=100")), [-1])

    def test_all_is_as_it_was(self):
        for text, wrong in (
            ("5 =1", put(3, "=1")),
            ("5 =1", put(0, "=100")),
            (words(15) + " =1", put(0, "=1")),
            ("=1 <2 2> <3 3> <4 4> =5", put(0, "=1")),
        ):
            found = ask(
                source("=1! <2 <3 <4 =5", "=1 <2 2> <3 3> <4 4> =5"), target(text), wrong, FAULTS, WOULD,
            )
            self.assertLess(found[2][0], 0)
            self.assertEqual(found[3:], [told(), mended(0, text)])


if __name__ == "__main__":
    unittest.main()
