"""Promise 2: what tell refuses, and which refusal is told where several fit."""

import unittest

from lines import TOP, ask, begins, bring, distrust, gone, last, look, put, state, tell, there

WRONG_MADE = (1,)
WRONG_TRACE = [gone(0, 1), gone(0, 1)]
THIRTY = [tell(number) for number in range(30)]


class JobAndEnd(unittest.TestCase):
    def test_a_job_that_is_there(self):
        self.assertEqual(ask(begins(3), tell(1, job=0), tell(2, job=2)), [[0], [0], [0]])

    def test_no_such_job(self):
        self.assertEqual(ask(tell(1, job=1), tell(1, job=TOP)), [[-2], [-2]])
        self.assertEqual(last(begins(3), tell(1, job=3)), [-2])

    def test_ends(self):
        self.assertEqual(ask(begins(2), tell(1, ended=0), tell(2, job=1, ended=1)), [[0], [0], [0]])
        self.assertEqual(ask(tell(1, ended=2), tell(1, ended=TOP)), [[-2], [-2]])


class Trust(unittest.TestCase):
    def test_a_machine_that_is_not_trusted_any_more(self):
        self.assertEqual(ask(distrust(4), tell(1, machine=4), tell(1, machine=5)), [[0], [-3], [0]])

    def test_any_number_may_be_a_machine(self):
        self.assertEqual(ask(begins(2), tell(1, machine=TOP), tell(2, job=1, machine=0)), [[0], [0], [0]])


class Number(unittest.TestCase):
    def test_a_number_that_is_taken(self):
        self.assertEqual(ask(tell(7), tell(7)), [[0], [-4]])

    def test_by_a_run_of_another_job_and_machine(self):
        self.assertEqual(last(begins(2), tell(TOP, job=0, machine=1), tell(TOP, job=1, machine=2)), [-4])

    def test_by_a_run_that_is_not_held_to_be_so(self):
        self.assertEqual(ask(tell(1), tell(2), tell(3, ended=1), tell(2), tell(3)), [[0], [1], [2, 1, 0], [-4], [-4]])

    def test_a_refused_run_takes_no_number(self):
        self.assertEqual(ask(tell(1, job=9), tell(1, made=WRONG_MADE), tell(1, asked=WRONG_TRACE), tell(1)),
                         [[-2], [-5], [-6], [0]])


class Made(unittest.TestCase):
    def test_none_to_six_files(self):
        for count in range(7):
            made = [number for file in range(count) for number in (10 * file, 5)]
            with self.subTest(count=count):
                self.assertEqual(ask(tell(1, made=made), look(0)), [[0], [1, 1, 0, *made]])

    def test_seven_files(self):
        made = [number for file in range(7) for number in (file, 5)]
        self.assertEqual(ask(tell(1, made=made), tell(2, made=made[:12])), [[-5], [0]])

    def test_an_odd_number_of_numbers(self):
        for count in (1, 3, 5, 7, 9, 11, 13):
            with self.subTest(count=count):
                self.assertEqual(ask(tell(1, made=range(count))), [[-5]])

    def test_files_that_do_not_rise(self):
        for made in ((2, 0, 1, 0), (2, 0, 2, 0), (1, 0, 3, 0, 2, 0), (1, 0, 2, 0, 2, 1), (0, 0, 0, 0)):
            with self.subTest(made=made):
                self.assertEqual(ask(tell(1, made=made)), [[-5]])

    def test_contents_need_not_rise(self):
        made = (0, TOP, 1, 5, 2, 5, TOP, 0)
        self.assertEqual(ask(tell(1, made=made), look(0)), [[0], [1, 1, 0, *made]])


class Full(unittest.TestCase):
    def test_thirty_runs_and_one_more(self):
        given = ask(*THIRTY, tell(30), tell(31, asked=[gone(0, 1)]))
        self.assertEqual(given, [[0]] + [[1]] * 29 + [[-7], [-7]])

    def test_runs_of_all_jobs_count_together(self):
        told = [tell(number, job=number % 6, machine=number) for number in range(30)]
        self.assertEqual(ask(begins(6), *told, tell(30, job=3))[-2:], [[1], [-7]])

    def test_runs_that_contradict_count(self):
        told = [tell(number, ended=number % 2) for number in range(30)]
        self.assertEqual(ask(*told, tell(30))[1:31:29], [[2, 0, 0], [-7]])

    def test_refused_runs_do_not_count(self):
        refused = [tell(99, job=1), tell(0), tell(99, made=WRONG_MADE), tell(99, asked=WRONG_TRACE)]
        self.assertEqual(ask(*THIRTY[:29], *refused, tell(99), tell(100))[29:], [[-2], [-4], [-5], [-6], [1], [-7]])


class OfSeveralTheFirst(unittest.TestCase):
    def refused(self, **kinds):
        return last(*THIRTY, tell(**kinds))

    def test_each_ahead_of_those_behind(self):
        wrong = {"made": WRONG_MADE, "asked": WRONG_TRACE}
        self.assertEqual(self.refused(number=5, job=1, **wrong), [-2])
        self.assertEqual(self.refused(number=5, ended=2, **wrong), [-2])
        self.assertEqual(self.refused(number=5, **wrong), [-4])
        self.assertEqual(self.refused(number=30, **wrong), [-5])
        self.assertEqual(self.refused(number=30, asked=WRONG_TRACE), [-6])
        self.assertEqual(self.refused(number=30), [-7])

    def test_two_by_two(self):
        self.assertEqual(last(tell(1), tell(1, job=1)), [-2])
        self.assertEqual(last(tell(1), tell(1, made=WRONG_MADE)), [-4])
        self.assertEqual(last(tell(1), tell(1, asked=WRONG_TRACE)), [-4])
        self.assertEqual(last(tell(2, made=WRONG_MADE, asked=WRONG_TRACE)), [-5])
        self.assertEqual(self.refused(number=30, made=WRONG_MADE), [-5])
        self.assertEqual(self.refused(number=29), [-4])


class AllIsAsItWas(unittest.TestCase):
    def test_after_each_refusal(self):
        before = [begins(2), put(1, 10), distrust(4), tell(1, asked=[there(0, 1, 10)], made=(5, 50)), bring(0)]
        behind = [*state(2), tell(2, asked=[there(0, 1, 10)], made=(5, 50)), tell(3, ended=1), *state(2)]
        plain = ask(*before, *behind)[5:]
        self.assertEqual(plain[0], [1, 1])
        for refusal, call in (
                (-2, tell(2, job=2)), (-2, tell(2, ended=2)), (-3, tell(2, job=1, machine=4)), (-4, tell(1, job=1)),
                (-5, tell(2, job=1, made=WRONG_MADE)), (-6, tell(2, job=1, asked=WRONG_TRACE))):
            with self.subTest(call=call):
                given = ask(*before, call, *behind)
                self.assertEqual(given[5], [refusal])
                self.assertEqual(given[6:], plain)

    def test_when_thirty_are_told(self):
        before = [begins(2), *THIRTY, bring(0)]
        plain = ask(*before, *state(2))[32:]
        self.assertEqual(plain[0], [30, 0])
        self.assertEqual(ask(*before, tell(30, job=1), *state(2))[32:], [[-7], *plain])


if __name__ == "__main__":
    unittest.main()
