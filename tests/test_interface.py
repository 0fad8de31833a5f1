"""The interface: how calls are handed in, how answers are given back, and what is left untouched."""

import contextlib
import io
import sys
import unittest

from lines import TOP, begins, bring, distrust, drop, files, gone, held, look, nearest, plan, put, split, tell, there, which
from skipruns.house import answers

CALLS = [
    begins(2), put(3, 30), put(1, 10), drop(1),
    tell(5, asked=[there(0, 3, 30), gone(0, 1), which(0, 0, 9, 3)], made=(2, 20, 4, 40)),
    tell(6, job=1, asked=[there(1, 2, 20), which(1, 3, TOP, 4)], ended=1),
    look(0), look(1), bring(0), look(1), drop(9), tell(5), bring(7),
    files(1), plan(), tell(7, machine=2, asked=[there(0, 3, 31)]), put(3, 31), nearest(0), nearest(1), plan(), held(),
    distrust(2), distrust(2), tell(8, machine=2), nearest(0), nearest(1), held(), files(0), files(1), files(3)]
LINE = [number for call in CALLS for number in call]
GIVEN = [
    1, 0, 1, 1, 1, 2, 1, 1,
    1, 0, 1, 0,
    7, 1, 5, 0, 2, 20, 4, 40,
    6, 0, 0, 0, 1, 2, 0,
    7, 1, 5, 0, 2, 20, 4, 40,
    3, 1, 6, 1,
    1, -4, 1, -4, 1, -2,
    5, 2, 2, 20, 4, 40,
    5, 2, 1, 5, 1, 6,
    1, 0, 1, 1,
    2, 0, 7,
    2, 0, 6,
    4, 2, 1, 7, 0,
    4, 3, 5, 6, 7,
    3, 2, 5, 6, 1, -4, 1, -3,
    3, 1, 5, 0,
    4, 2, 6, 0, 1,
    3, 2, 5, 6,
    3, 1, 3, 31,
    1, 0, 1, -2]


class Untouchable(list):
    """A list that may be read alone."""

    def refuse(self, *given, **named):
        raise AssertionError("what is handed in was changed")

    append = extend = insert = pop = remove = clear = sort = reverse = refuse
    __setitem__ = __delitem__ = __iadd__ = __imul__ = refuse


class Interface(unittest.TestCase):
    def test_a_line_written_out(self):
        line = [
            0, 1, 2, 0,
            1, 2, 3, 30, 0,
            3, 4, 5, 0, 8, 1, 4, 2, 7, 70, 3, 0, 0, 9, 4, 0, 0, 3, 30, 5, 1, 0, 2, 4, 3,
            4, 1, 0, 0,
            2, 1, 3, 0,
            4, 1, 0, 0,
            5, 1, 1, 0]
        self.assertEqual(answers(line), [1, 0, 1, 1, 1, 0, 5, 1, 5, 1, 7, 70, 1, 0, 6, 0, 1, 0, 0, 3, 0, 1, -8])

    def test_one_call(self):
        self.assertEqual(answers([4, 1, 0, 0]), [2, 0, 0])
        self.assertEqual(answers([0, 1, 0, 0]), [1, -1])
        self.assertEqual(answers([3, 4, 1, 0, 0, 0, 1, 0]), [1, 0])
        self.assertEqual(answers([6, 1, 0, 0]), [1, -8])
        self.assertEqual(answers([7, 0, 0]), [2, 1, 0])
        self.assertEqual(answers([8, 1, 0, 0]), [1, 0])
        self.assertEqual(answers([9, 0, 0]), [1, 0])
        self.assertEqual(answers([10, 1, 1, 0]), [1, 0])
        self.assertEqual(answers([10, 1, 2, 0]), [1, -2])

    def test_the_later_calls_written_out(self):
        line = [
            0, 1, 2, 0,
            1, 2, 9, 90, 0,
            1, 2, 3, 30, 0,
            3, 4, 5, 0, 8, 1, 2, 2, 7, 70, 4, 0, 0, 3, 31,
            3, 4, 6, 0, 7, 0, 1, 0,
            6, 1, 0, 0,
            7, 0, 0,
            9, 0, 0,
            8, 1, 8, 0,
            7, 0, 0,
            9, 0, 0,
            10, 1, 0, 0,
            10, 1, 3, 0]
        self.assertEqual(answers(line), [
            1, 0, 1, 1, 1, 2, 1, 0, 3, 2, 5, 0, 3, 1, 5, 0, 3, 2, 0, 0, 2, 2, 5, 2, 1, 6, 4, 2, 1, 6, 0, 2, 1, 6,
            5, 2, 3, 30, 9, 90, 1, -2])

    def test_sixty_calls(self):
        self.assertEqual(answers(put(1, 1) * 60), [1, 1] * 60)

    def test_sixty_calls_of_all_eleven(self):
        self.assertEqual(len(CALLS + CALLS), 60)
        self.assertEqual({call[0] for call in CALLS}, set(range(11)))
        self.assertEqual(answers(LINE + LINE), GIVEN + GIVEN)

    def test_as_many_answers_as_calls(self):
        self.assertEqual(len(split(GIVEN)), len(CALLS))
        for count in range(1, len(CALLS) + 1):
            given = split(answers([number for call in CALLS[:count] for number in call]))
            self.assertEqual(given, split(GIVEN)[:count])

    def test_the_longest_calls(self):
        asked = [which(0, 0, TOP - part, *range(36)) for part in range(14)]
        made = [number for file in range(7) for number in (file, TOP)]
        line = tell(1, asked=asked, made=made) + tell(1, asked=asked, made=made[:12]) + look(0)
        self.assertEqual(answers(line), [1, -5, 1, -6, 2, 0, 0])
        line = tell(1, asked=asked[:12], made=made[:12]) + look(0)
        self.assertEqual(answers(line), [1, 0, 7, 0, 0, 1, 0, 0, TOP, 0])

    def test_a_list_of_whole_numbers_is_given_back(self):
        given = answers(list(LINE))
        self.assertEqual(given, GIVEN)
        self.assertIs(type(given), list)
        self.assertEqual({type(number) for number in given}, {int})

    def test_what_is_handed_in_is_not_changed(self):
        line = Untouchable(LINE)
        self.assertEqual(answers(line), GIVEN)
        self.assertEqual(list(line), LINE)

    def test_what_is_given_back_is_a_list_of_its_own(self):
        line = list(LINE)
        given = answers(line)
        given.clear()
        self.assertEqual(line, LINE)
        self.assertEqual(answers(line), GIVEN)

    def test_nothing_is_kept_from_one_time_to_the_next(self):
        self.assertEqual(answers(LINE), GIVEN)
        self.assertEqual(answers(LINE), GIVEN)
        self.assertEqual(answers(look(0) + look(1) + drop(3) + tell(5)), [2, 0, 0, 1, -2, 1, -4, 1, 0])
        self.assertEqual(answers(files(0) + files(1) + held() + tell(5, machine=2)), [1, 0, 1, 0, 1, 0, 1, 0])
        self.assertEqual(answers(plan() + nearest(0) + distrust(2)), [2, 1, 0, 1, -8, 1, 0])
        self.assertEqual(answers(LINE), GIVEN)

    def test_nothing_is_printed_read_or_imported(self):
        modules = set(sys.modules)
        out = io.StringIO()
        err = io.StringIO()
        handed = sys.stdin
        sys.stdin = None
        try:
            with contextlib.redirect_stdout(out), contextlib.redirect_stderr(err):
                self.assertEqual(answers(LINE), GIVEN)
        finally:
            sys.stdin = handed
        self.assertEqual((out.getvalue(), err.getvalue()), ("", ""))
        self.assertEqual(set(sys.modules), modules)


if __name__ == "__main__":
    unittest.main()
