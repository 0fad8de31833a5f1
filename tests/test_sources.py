"""Promise 1: begins, put, drop."""

import unittest

from lines import TOP, ask, begins, bring, distrust, drop, gone, last, look, put, tell, there, which

THIRTY = [put(file, 100 + file) for file in range(30)]


class Begins(unittest.TestCase):
    def test_one_to_six_jobs(self):
        for jobs in range(1, 7):
            with self.subTest(jobs=jobs):
                given = ask(begins(jobs), look(jobs - 1), look(jobs))
                self.assertEqual(given, [[0], [0, 0], [-2]])

    def test_other_numbers_of_jobs_are_refused(self):
        for jobs in (0, 7, 8, TOP):
            with self.subTest(jobs=jobs):
                self.assertEqual(ask(begins(jobs)), [[-1]])

    def test_without_it_there_is_one_job_and_nothing_else(self):
        self.assertEqual(ask(look(0), look(1), drop(0), put(0, 0)), [[0, 0], [-2], [-4], [1]])

    def test_a_refusal_leaves_all_as_it_was(self):
        for jobs in (0, 7):
            with self.subTest(jobs=jobs):
                given = ask(
                    begins(3), put(5, 50), tell(1, job=0, made=(8, 80)), bring(0),
                    tell(2, job=2, asked=[there(1, 8, 80), there(0, 5, 50)]),
                    begins(jobs),
                    look(2), look(3), tell(1), put(6, 60))
                self.assertEqual(given[5:], [[-1], [1, 2, 0], [-2], [-4], [2]])

    def test_no_source_is_left(self):
        self.assertEqual(ask(put(1, 1), put(2, 2), begins(1), drop(1), put(3, 3))[2:], [[0], [-4], [1]])

    def test_no_run_is_left(self):
        given = ask(begins(2), tell(1, ended=1), tell(2, job=1), begins(2), look(0), look(1),
                    tell(1, ended=0), tell(2, job=1, ended=1))
        self.assertEqual(given[3:], [[0], [0, 0], [0, 0], [0], [0]])

    def test_told_runs_are_counted_anew(self):
        told = [tell(number) for number in range(30)]
        self.assertEqual(last(*told, begins(1), tell(30)), [0])

    def test_areas_of_jobs_are_empty_again(self):
        given = ask(begins(2), tell(1, made=(8, 80)), bring(0), begins(2),
                    tell(2, job=1, asked=[which(1, 0, TOP)]), look(1))
        self.assertEqual(given[-1], [1, 2, 0])

    def test_all_machines_are_trusted_again(self):
        given = ask(distrust(4), distrust(5), begins(9), tell(1, machine=4), begins(1), tell(1, machine=4), distrust(5))
        self.assertEqual(given[2:], [[-1], [-3], [0], [0], [1, 1]])

    def test_fewer_jobs_than_before(self):
        self.assertEqual(ask(begins(6), begins(2), look(1), look(2)), [[0], [0], [0, 0], [-2]])


class Put(unittest.TestCase):
    def test_answers_how_many_there_are_then(self):
        self.assertEqual(ask(put(9, 1), put(3, 1), put(TOP, TOP), put(0, 0)), [[1], [2], [3], [4]])

    def test_a_source_that_is_there_gets_another_content(self):
        given = ask(put(9, 1), put(9, 2), tell(1, asked=[there(0, 9, 2)]), look(0))
        self.assertEqual(given, [[1], [1], [0], [1, 1, 0]])

    def test_thirty_sources(self):
        self.assertEqual(ask(*THIRTY), [[count] for count in range(1, 31)])

    def test_the_next_is_refused_and_changes_nothing(self):
        given = ask(*THIRTY, put(30, 1), tell(1, asked=[gone(0, 30), which(0, 0, TOP, *range(30))]), look(0))
        self.assertEqual(given[30:], [[-7], [0], [1, 1, 0]])

    def test_one_of_thirty_gets_another_content(self):
        given = ask(*THIRTY, put(29, 7), tell(1, asked=[there(0, 29, 7)]), look(0))
        self.assertEqual(given[30:], [[30], [0], [1, 1, 0]])

    def test_a_place_that_is_free_again(self):
        self.assertEqual(ask(*THIRTY, drop(4), put(77, 1), put(78, 1))[30:], [[29], [30], [-7]])

    def test_what_jobs_made_is_no_source(self):
        made = (1, 1, 2, 2, 3, 3)
        self.assertEqual(last(*THIRTY[:29], tell(1, made=made), bring(0), put(40, 1)), [30])


class Drop(unittest.TestCase):
    def test_one_that_is_there(self):
        given = ask(put(1, 10), put(2, 20), drop(1), tell(1, asked=[which(0, 0, TOP, 2)]), look(0))
        self.assertEqual(given[2:], [[1], [0], [1, 1, 0]])

    def test_the_only_one(self):
        self.assertEqual(ask(put(1, 10), drop(1)), [[1], [0]])

    def test_one_that_is_not_there_is_refused_and_changes_nothing(self):
        given = ask(put(1, 10), drop(2), drop(TOP), put(3, 30))
        self.assertEqual(given, [[1], [-4], [-4], [2]])

    def test_one_that_was_dropped_already(self):
        self.assertEqual(ask(put(1, 10), drop(1), drop(1)), [[1], [0], [-4]])

    def test_what_a_job_made_is_no_source(self):
        self.assertEqual(last(tell(1, made=(5, 50)), bring(0), drop(5)), [-4])


if __name__ == "__main__":
    unittest.main()
