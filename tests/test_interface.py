import contextlib
import io
import unittest

from lines import (
    FAULTS, MEND, SHOWS, UNDO, WOULD, ask, flat, move, put, retype, segment, source, take, target, within, words,
)
from tagmenddesk.segment import answers

LINE = [
    source("<1! <2 =3!", "<1 5 <2 2> 1> =3"),
    target("<2 7 <1 8 2> 9 1> =4"),
    FAULTS,
    WOULD,
    put(9, "=3"),
    put(8, "=3"),
    MEND,
    target("1000"),
    source("=1", ""),
    FAULTS,
    retype(1, 4, "10 11"),
    within(1),
    within(2),
    move(0, 3),
    move(7, 8),
    SHOWS,
    take(6),
    take(3),
    UNDO,
    SHOWS,
    UNDO,
    SHOWS,
    within(3),
    UNDO,
    UNDO,
    UNDO,
    UNDO,
    UNDO,
    within(2),
    SHOWS,
]

ANSWERS = [
    [0, 2],
    [8, 3],
    [3, 1, 4, 0, 6, 2, 1, 3, 3, 0],
    [4, 8] + segment("<2 7 <1 1> 8 2> 9 =3"),
    [-1],
    [9, 2],
    [3, 8] + segment("<2 7 <1 1> 8 2> 9 =3"),
    [-1],
    [-3],
    [0],
    [8, 0],
    [1, 5, 0],
    [0, 2, 10, 11],
    [8, 0],
    [-1],
    [8] + segment("<1 1> 10 <2 11 2> 9 =3"),
    [-6],
    [7, 1],
    [8, 0],
    [8] + segment("<1 1> 10 <2 11 2> 9 =3"),
    [8, 0],
    [8] + segment("<2 <1 1> 10 11 2> 9 =3"),
    [-2],
    [8, 0],
    [9, 2],
    [8, 3],
    [0, 2],
    [-7],
    [-6],
    [0],
]


class KeptAsItIs(list):
    """A list that refuses every change, so that one made for a while is seen too."""

    def refuse(self, *given, **named):
        raise AssertionError("the list handed in was changed")

    __setitem__ = __delitem__ = __iadd__ = __imul__ = refuse
    append = clear = extend = insert = pop = remove = reverse = sort = refuse


class Interface(unittest.TestCase):
    def test_a_line_number_by_number(self):
        calls = [0, 6, 1, 1, 0, 1, 3, 1] + [1, 2, 0, 7] + [2] + [5, 2, 3, 1] + [5, 1, 3, 1] + [3] + [4] + [2]
        expected = [2, 0, 1] + [2, 1, 1] + [4, 1, 3, 1, 0] + [1, -1] + [2, 2, 0]
        expected += [6, 0, 2, 0, 7, 3, 1] + [6, 0, 2, 0, 7, 3, 1] + [1, 0]
        self.assertEqual(answers(calls), expected)

    def test_the_later_calls_number_by_number(self):
        calls = [0, 10, 1, 4, 1, 1, 1, 4, 0, 3, 2, 4] + [7, 0, 0, 2, 8, 9] + [5, 1, 2, 4] + [5, 0, 1, 4]
        expected = [2, 0, 1] + [2, 2, 1] + [2, 3, 1] + [2, 4, 0]
        calls += [8, 4] + [9] + [11, 0, 1] + [9] + [6, 2] + [10] + [7, 0, 4, 0] + [9] + [7, 1, 2, 0] + [10]
        expected += [4, 1, 3, 1, 8] + [9, 4, 1, 4, 0, 8, 2, 4, 0, 9] + [2, 4, 0] + [9, 4, 0, 8, 1, 4, 2, 4, 0, 9]
        expected += [2, 3, 1] + [2, 4, 0] + [2, 2, 0] + [5, 2, 1, 4, 2, 4] + [1, -1] + [2, 4, 0]
        self.assertEqual(answers(calls), expected)

    def test_the_line_that_the_readme_shows(self):
        calls = [0, 8, 1, 4, 1, 1, 1, 4, 2, 4, 1, 4, 0, 7, 1, 4, 2, 3, 10]
        expected = [2, 0, 1, 2, 2, 1, 4, 1, 4, 4, 0, 8, 1, 3, 0, 7, 1, 4, 2, 4, 2, 2, 1]
        self.assertEqual(answers(calls), expected)

    def test_a_line_call_by_call(self):
        self.assertEqual(ask(*LINE), ANSWERS)

    def test_how_many_numbers_stand_ahead_of_each_answer(self):
        self.assertEqual(answers(flat(LINE)), flat([[len(answer)] + answer for answer in ANSWERS]))

    def test_lists_of_length_0(self):
        self.assertEqual(answers([1, 0, 0, 1, 0, 2]), [2, 0, 0, 2, 0, 0, 1, 0])

    def test_whole_numbers_in_a_list(self):
        given = answers(flat(LINE))
        self.assertIs(type(given), list)
        self.assertEqual([number for number in given if type(number) is not int], [])

    def test_what_is_handed_in_is_not_changed(self):
        calls = KeptAsItIs(flat(LINE))
        self.assertEqual(answers(calls), flat([[len(answer)] + answer for answer in ANSWERS]))
        self.assertEqual(list(calls), flat(LINE))

    def test_what_is_given_back_is_a_list_of_its_own(self):
        first = answers(flat(LINE))
        first.clear()
        self.assertEqual(answers(flat(LINE)), flat([[len(answer)] + answer for answer in ANSWERS]))

    def test_nothing_is_kept_from_one_time_to_the_next(self):
        ask(source("<1!", "<1 1>"), target("5 6"), target("<1 5 1>"))
        self.assertEqual(ask(FAULTS, WOULD, SHOWS, UNDO, within(1)), [[0], [0, 0], [0], [-7], [-2]])
        self.assertEqual(ask(*LINE), ask(*LINE))

    def test_prints_and_reads_nothing(self):
        printed = io.StringIO()
        with contextlib.redirect_stdout(printed), contextlib.redirect_stderr(printed):
            answers(flat(LINE))
        self.assertEqual(printed.getvalue(), "")

    def test_forty_calls(self):
        self.assertEqual(ask(*[put(0, "=1")] * 40), [[k, 1] for k in range(1, 9)] + [[-5]] * 32)
        tags, text = "<1! <2! <3! <4!", "<1 <2 <3 <4 4> 3> 2> 1>"
        found = ask(source(tags, text), target("1> 2> 3> 4> <1 <2 <3 <4 " + words(8)), *[WOULD] * 38)
        self.assertEqual(len(found), 40)
        self.assertEqual(found[2][:2], [8, 16])
        self.assertEqual(found[2:], [found[2]] * 38)

    def test_the_longest_rows(self):
        told = [43] + [7, 1, 0] * 43
        self.assertEqual(answers([0, 130] + told), [1, -1])
        self.assertEqual(answers([1, 100] + [0, 1] * 50 + [2]), [1, -1, 1, 0])
        self.assertEqual(answers([7, 0, 0, 100] + [9] * 100 + [9]), [1, -5, 1, 0])
        self.assertEqual(answers(([0, 130] + told) * 40), [1, -1] * 40)

    def test_the_greatest_numbers(self):
        greatest = 4294967295
        calls = [5, greatest, 3, greatest] + [6, greatest] + [7, greatest, greatest, 1, greatest] + [8, greatest]
        calls += [11, greatest, greatest] + [1, 2, 0, greatest] + [0, 4, 1, greatest, 1, 1] + [9]
        self.assertEqual(answers(calls), [1, -1] * 3 + [1, -2] + [1, -1] * 3 + [1, 0])


if __name__ == "__main__":
    unittest.main()
