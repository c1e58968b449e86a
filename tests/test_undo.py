import unittest

from lines import (
    FAULTS, MEND, SHOWS, UNDO, WOULD, ask, last, move, put, retype, shown, source, take, target, told, within, words,
)

SOURCE = source("<1! =2", "<1 5 1> =2")
TEXT = "<1 6 7 =2"
CHANGES = (
    (target("8 =2"), "8 =2"),
    (MEND, "<1 1> 6 7 =2"),
    (put(3, "1>"), "<1 6 7 1> =2"),
    (take(3), "<1 6 7"),
    (move(3, 0), "=2 <1 6 7"),
    (retype(0, 3, "9"), "<1 9 =2"),
)
QUESTIONS = (FAULTS, WOULD, within(1), SHOWS)
REFUSED = (
    target("1000"), target(words(17)), put(5, "=2"), put(0, "=100"), take(4), take(1), move(4, 0), move(1, 0),
    move(0, 4), retype(4, 1), retype(0, 0, "1000"), retype(0, 0, words(17)), within(2), within(1),
)


class UndoAnswers(unittest.TestCase):
    def test_behind_each_change(self):
        for call, result in CHANGES:
            found = ask(SOURCE, target(TEXT), call, SHOWS, UNDO, SHOWS, FAULTS, UNDO, SHOWS, UNDO)
            self.assertEqual(found[3], shown(result), call)
            self.assertEqual(found[4:], [[4, 1], shown(TEXT), told([4, 1, 0]), [0, 1], [0], [-7]], call)

    def test_how_it_stands(self):
        found = ask(SOURCE, target("=2 =2 =9"), target("<1 1>"), UNDO, UNDO)
        self.assertEqual(found[1:], [[3, 3], [2, 0], [3, 3], [0, 1]])

    def test_changes_that_change_nothing(self):
        right = "<1 6 1> =2"
        for call in (target(right), MEND, move(3, 3), retype(2, 0), retype(1, 1, "6")):
            found = ask(SOURCE, target("7"), target(right), call, SHOWS, UNDO, SHOWS, UNDO, SHOWS)
            self.assertEqual(found[4:], [shown(right), [4, 0], shown(right), [1, 1], shown("7")], call)

    def test_several_behind_one_another(self):
        calls = [SOURCE, target(TEXT)]
        shows = [shown(""), shown(TEXT)]
        for call in (put(4, "1>"), take(3), move(3, 1), retype(0, 3, "8 9"), MEND, target("3")):
            shows.append(ask(*calls, call, SHOWS)[-1])
            calls.append(call)
        self.assertEqual(
            shows[2:],
            [shown(text) for text in (
                "<1 6 7 =2 1>", "<1 6 7 1>", "<1 1> 6 7", "<1 1> 8 9 7", "<1 1> 8 9 7", "3",
            )],
        )
        found = ask(*calls, *[UNDO, SHOWS] * 7, UNDO, SHOWS)
        self.assertEqual(found[len(calls) + 1:len(calls) + 14:2], shows[-2::-1])
        self.assertEqual(found[-2:], [[-7], [0]])

    def test_behind_questions(self):
        for call in QUESTIONS:
            found = ask(SOURCE, target("3"), target(TEXT), call, call, UNDO, SHOWS, call, UNDO, SHOWS, call, UNDO)
            self.assertEqual(found[5:7] + found[8:10] + found[11:], [[1, 1], shown("3"), [0, 1], [0], [-7]], call)

    def test_behind_a_refused_call(self):
        for call in REFUSED:
            found = ask(SOURCE, target("3"), target(TEXT), call, UNDO, SHOWS, call, UNDO, SHOWS)
            self.assertEqual(len(found[3]), 1, call)
            self.assertLess(found[3][0], 0, call)
            self.assertEqual(found[4:6] + found[7:], [[1, 1], shown("3"), [0, 1], [0]], call)

    def test_behind_a_refused_mend(self):
        found = ask(SOURCE, target("3"), target(words(16)), MEND, UNDO, SHOWS, UNDO, UNDO)
        self.assertEqual(found[3:], [[-5], [1, 1], shown("3"), [0, 1], [-7]])

    def test_another_change_after_it(self):
        found = ask(
            SOURCE, target("3"), target("4"), UNDO, put(1, "=2"), SHOWS, UNDO, SHOWS, take(0), retype(1, 0, "5"),
            SHOWS, UNDO, SHOWS, UNDO, SHOWS, UNDO,
        )
        self.assertEqual(found[3:8], [[1, 1], [2, 1], shown("3 =2"), [1, 1], shown("3")])
        self.assertEqual(found[8:13], [[-6], [2, 1], shown("3 5"), [1, 1], shown("3")])
        self.assertEqual(found[13:], [[0, 1], [0], [-7]])

    def test_it_is_not_itself_undone(self):
        found = ask(target("1"), target("2"), target("3"), UNDO, UNDO, SHOWS, UNDO, SHOWS)
        self.assertEqual(found[3:], [[1, 0], [1, 0], shown("1"), [0, 0], [0]])

    def test_without_a_source(self):
        found = ask(target("1 =2"), put(0, "=3"), UNDO, SHOWS, UNDO, SHOWS, UNDO)
        self.assertEqual(found[2:], [[2, 1], shown("1 =2"), [0, 0], [0], [-7]])

    def test_behind_a_refused_source(self):
        for call in (source("=9", ""), source("", "1000")):
            found = ask(SOURCE, target("3"), target(TEXT), call, UNDO, SHOWS, FAULTS, UNDO, UNDO)
            self.assertLess(found[3][0], 0)
            self.assertEqual(found[4:], [[1, 1], shown("3"), told([3, 1, 0]), [0, 1], [-7]])

    def test_as_many_as_a_line_has_room_for(self):
        found = ask(*[retype(0, 0, str(k)) for k in range(16)], *[take(0)] * 3, *[UNDO] * 17, SHOWS)
        self.assertEqual(found[16:], [[-6]] * 3 + [[15 - k, 0] for k in range(16)] + [[-7], [0]])


class UndoRefused(unittest.TestCase):
    def test_at_the_beginning(self):
        self.assertEqual(last(UNDO), [-7])

    def test_behind_refused_calls_alone(self):
        for call in (target("1000"), put(1, "=1"), take(0), move(0, 0), retype(1, 0), within(1), source("=1", "")):
            self.assertEqual(last(call, UNDO), [-7], call)

    def test_behind_questions_alone(self):
        self.assertEqual(last(*QUESTIONS, UNDO), [-7])

    def test_behind_a_new_source(self):
        for new in (SOURCE, source("", "")):
            found = ask(target("3"), SOURCE, target(TEXT), target("4"), new, UNDO, SHOWS, UNDO)
            self.assertEqual(found[5:], [[-7], [0], [-7]])
        found = ask(target("3"), SOURCE, UNDO, target("4"), UNDO, UNDO)
        self.assertEqual(found[2:], [[-7], [1, 1], [0, 1], [-7]])

    def test_all_is_as_it_was(self):
        found = ask(SOURCE, target("3"), UNDO, UNDO, SHOWS, FAULTS, UNDO, target(TEXT), UNDO, SHOWS, UNDO)
        self.assertEqual(found[2:], [[0, 1], [-7], [0], told([3, 1, 0]), [-7], [4, 1], [0, 1], [0], [-7]])


if __name__ == "__main__":
    unittest.main()
