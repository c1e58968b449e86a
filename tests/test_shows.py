import unittest

from lines import FAULTS, SHOWS, UNDO, ask, last, segment, shown, source, target, told, words


class Shows(unittest.TestCase):
    def test_at_the_beginning(self):
        self.assertEqual(last(SHOWS), [0])

    def test_an_empty_translation(self):
        self.assertEqual(last(source("=1!", "5 =1"), SHOWS), [0])
        self.assertEqual(last(target("5 6"), target(""), SHOWS), [0])

    def test_things_of_each_kind(self):
        self.assertEqual(last(target("0 <1 999 1> =99 =0"), SHOWS), [6, 0, 0, 1, 1, 0, 999, 2, 1, 3, 99, 3, 0])

    def test_a_full_one(self):
        full = "<1 1> =2 =2 <3 <3 3> 3> " + words(8)
        self.assertEqual(last(target(full), SHOWS), [16] + segment(full))
        self.assertEqual(last(target(words(16)), SHOWS), [16] + segment(words(16)))

    def test_the_translation_and_not_the_source(self):
        self.assertEqual(last(source("=1", "5 =1"), target("=1 6 7"), SHOWS), shown("=1 6 7"))

    def test_nothing_is_done(self):
        found = ask(source("=1!", "=1"), target("5"), SHOWS, SHOWS, FAULTS, UNDO, SHOWS, UNDO)
        self.assertEqual(found[2:], [shown("5"), shown("5"), told([3, 1, 0]), [0, 1], [0], [-7]])


if __name__ == "__main__":
    unittest.main()
