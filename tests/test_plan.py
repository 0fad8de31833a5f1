"""The plan: jobs that are sure, that must be run, and that hang on what others make."""

import unittest

from lines import TOP, ask, begins, bring, drop, gone, last, plan, put, state, tell, there, which


class OneJob(unittest.TestCase):
    def test_no_run(self):
        self.assertEqual(ask(plan()), [[1, 0]])
        self.assertEqual(last(put(1, 1), plan()), [1, 0])

    def test_a_run_without_questions(self):
        self.assertEqual(ask(tell(7), plan()), [[0], [1, 1, 7]])
        self.assertEqual(ask(tell(TOP, ended=1, made=(1, 1)), plan()), [[0], [1, 1, TOP]])
        self.assertEqual(ask(tell(0), plan()), [[0], [1, 1, 0]])

    def test_all_would_be_answered_so(self):
        asked = [there(0, 1, 10), gone(0, 2), which(0, 2, 5, 3, 5), which(0, 6, 9)]
        self.assertEqual(last(put(5, 50), put(1, 10), put(3, 30), tell(7, asked=asked), plan()), [1, 1, 7])

    def test_one_would_be_answered_otherwise(self):
        asked = [gone(0, 1), there(0, 2, 5), which(0, 3, 6, 4), gone(0, 9)]
        given = ask(tell(7, asked=asked), plan(), put(2, 5), plan(), put(4, 0), plan(), put(9, 1), plan(), drop(9), plan(),
                    put(2, 6), plan())
        self.assertEqual(given[1::2], [[1, 0], [1, 0], [1, 1, 7], [1, 0], [1, 1, 7], [1, 0]])

    def test_the_one_of_several_that_fits(self):
        runs = [tell(9, asked=[gone(0, 1)]), tell(8, asked=[there(0, 1, 5), gone(0, 2)]),
                tell(7, asked=[there(0, 1, 5), there(0, 2, 0)])]
        given = ask(*runs, plan(), put(1, 5), plan(), put(2, 0), plan(), put(2, 1), plan(), drop(1), plan())
        self.assertEqual(given[3::2], [[1, 1, 9], [1, 1, 8], [1, 1, 7], [1, 0], [1, 1, 9]])

    def test_one_that_is_not_held_does_not_count(self):
        given = ask(tell(1, asked=[there(0, 1, 5)]), tell(2, asked=[gone(0, 2)]), tell(3), plan())
        self.assertEqual(given, [[0], [2, 1, 0], [2, 1, 0], [1, 0]])
        self.assertEqual(ask(tell(6, asked=[gone(0, 1)]), tell(2, asked=[gone(0, 1)]), plan()), [[0], [1], [1, 1, 6]])


class SixJobs(unittest.TestCase):
    def test_no_run(self):
        self.assertEqual(last(begins(6), plan()), [6, 0, 0, 0, 0, 0, 0])

    def test_as_many_jobs_as_there_are(self):
        for jobs in range(1, 7):
            self.assertEqual(last(begins(jobs), plan()), [jobs] + [0] * jobs)

    def test_each_reads_what_the_one_before_made(self):
        told = [tell(10 + job, job=job, asked=[there(job, job, 5)], made=(job + 1, 5)) for job in range(6)]
        given = ask(begins(6), *told, plan(), put(0, 5), plan(), put(0, 6), plan())
        self.assertEqual(given[7::2], [
            [6, 0, 2, 2, 2, 2, 2],
            [6, 1, 10, 1, 11, 1, 12, 1, 13, 1, 14, 1, 15],
            [6, 0, 2, 2, 2, 2, 2]])

    def test_all_sorts_together(self):
        given = ask(begins(6), put(1, 1),
                    tell(20, job=5, asked=[there(1, 4, 40), gone(3, 0)]),
                    tell(21, job=4, asked=[there(1, 4, 40), gone(2, 0), gone(0, 2)], made=(4, 4)),
                    tell(22, job=3, asked=[gone(0, 1)]),
                    tell(23, job=1, asked=[which(1, 0, TOP, 4), there(0, 1, 1)]),
                    tell(24, job=0, asked=[which(0, 0, TOP, 1)], made=(4, 40)),
                    plan())
        self.assertEqual(given[-1], [6, 1, 24, 1, 23, 0, 0, 1, 21, 2])

    def test_numbers_and_verdicts_are_not_mixed_up(self):
        given = last(begins(4), tell(0, job=1), tell(2, job=2), tell(1, job=3, asked=[gone(1, 1)]), plan())
        self.assertEqual(given, [4, 0, 1, 0, 1, 2, 2])

    def test_runs_of_other_jobs_do_not_count(self):
        self.assertEqual(last(begins(3), tell(1, job=1), plan()), [3, 0, 1, 1, 0])


class AskingAboutASureJob(unittest.TestCase):
    def planned(self, *asked, made=(4, 40, 6, 60)):
        return last(begins(2), put(1, 10), tell(1, asked=[there(0, 1, 10)], made=made), tell(2, job=1, asked=asked), plan())

    def test_answered_so(self):
        self.assertEqual(self.planned(there(1, 4, 40)), [2, 1, 1, 1, 2])
        self.assertEqual(self.planned(gone(1, 5), which(1, 5, 9, 6), there(0, 1, 10), gone(0, 4)), [2, 1, 1, 1, 2])
        self.assertEqual(self.planned(which(1, 0, TOP, 4, 6)), [2, 1, 1, 1, 2])
        self.assertEqual(self.planned(which(1, 0, TOP), made=()), [2, 1, 1, 1, 2])

    def test_answered_otherwise(self):
        self.assertEqual(self.planned(there(1, 4, 41)), [2, 1, 1, 0])
        self.assertEqual(self.planned(gone(1, 6)), [2, 1, 1, 0])
        self.assertEqual(self.planned(there(1, 5, 50)), [2, 1, 1, 0])
        self.assertEqual(self.planned(which(1, 0, TOP)), [2, 1, 1, 0])
        self.assertEqual(self.planned(there(1, 4, 40), gone(0, 1)), [2, 1, 1, 0])
        self.assertEqual(self.planned(gone(0, 1), there(1, 4, 40)), [2, 1, 1, 0])

    def test_it_made_nothing(self):
        self.assertEqual(self.planned(gone(1, 4), made=()), [2, 1, 1, 1, 2])
        self.assertEqual(self.planned(there(1, 4, 40), made=()), [2, 1, 1, 0])

    def test_what_the_run_that_fits_made(self):
        given = ask(begins(2), tell(1, asked=[gone(0, 1)], made=(4, 40)), tell(2, asked=[there(0, 1, 1)], made=(5, 50)),
                    tell(3, job=1, asked=[which(1, 0, 9, 4)]), tell(4, job=1, asked=[which(1, 0, 9, 5)]),
                    plan(), put(1, 1), plan(), put(1, 2), plan())
        self.assertEqual(given[5::2], [[2, 1, 1, 1, 3], [2, 1, 2, 1, 4], [2, 0, 2]])

    def test_one_that_ended_with_one(self):
        given = last(begins(2), tell(1, ended=1, made=(4, 40)), tell(2, job=1, asked=[there(1, 4, 40)]), plan())
        self.assertEqual(given, [2, 1, 1, 1, 2])

    def test_its_area_is_no_source(self):
        given = last(begins(2), put(4, 41), tell(1, made=(4, 40)), tell(2, job=1, asked=[there(0, 4, 41), there(1, 4, 40)]),
                     plan())
        self.assertEqual(given, [2, 1, 1, 1, 2])


class AskingAboutAJobThatIsNotSure(unittest.TestCase):
    MUST = tell(1, asked=[there(0, 1, 10)], made=(4, 40))

    def test_that_must_be_run(self):
        for asked in ([there(1, 4, 40)], [gone(1, 4)], [which(1, 0, 9)], [gone(0, 1), there(1, 4, 40), which(0, 2, 5)]):
            with self.subTest(asked=asked):
                self.assertEqual(last(begins(2), self.MUST, tell(2, job=1, asked=asked), plan()), [2, 0, 2])

    def test_that_no_run_is_told_of(self):
        self.assertEqual(last(begins(2), tell(2, job=1, asked=[gone(1, 4)]), plan()), [2, 0, 2])

    def test_that_hangs(self):
        given = last(begins(3), tell(2, job=1, asked=[gone(1, 4)], made=(5, 50)), tell(3, job=2, asked=[there(2, 5, 50)]),
                     plan())
        self.assertEqual(given, [3, 0, 2, 2])

    def test_wrong_about_the_sources(self):
        for asked in ([there(1, 4, 40), there(0, 1, 10)], [there(0, 1, 10), there(1, 4, 40)],
                      [gone(0, 2), gone(1, 4), which(0, 3, 5, 4)]):
            with self.subTest(asked=asked):
                self.assertEqual(last(begins(2), self.MUST, tell(2, job=1, asked=asked), plan()), [2, 0, 0])

    def test_wrong_or_right_about_a_sure_job(self):
        before = [begins(3), tell(1, made=(4, 40))]
        self.assertEqual(last(*before, tell(2, job=2, asked=[gone(2, 1), there(1, 4, 40)]), plan()), [3, 1, 1, 0, 2])
        self.assertEqual(last(*before, tell(2, job=2, asked=[gone(2, 1), there(1, 4, 41)]), plan()), [3, 1, 1, 0, 0])
        self.assertEqual(last(*before, tell(2, job=2, asked=[gone(2, 1), gone(1, 4)]), plan()), [3, 1, 1, 0, 0])

    def test_one_of_several_runs_is_enough(self):
        told = [tell(2, job=1, asked=[there(0, 1, 1), gone(1, 1)]), tell(3, job=1, asked=[gone(0, 1), gone(1, 2)])]
        self.assertEqual(last(begins(2), *told, plan()), [2, 0, 2])
        self.assertEqual(last(begins(2), *told[::-1], plan()), [2, 0, 2])
        self.assertEqual(last(begins(2), put(1, 2), *told, plan()), [2, 0, 0])

    def test_sure_though_other_runs_hang(self):
        told = [tell(2, job=1, asked=[there(0, 1, 1), gone(1, 1)]), tell(3, job=1, asked=[gone(0, 1)], made=(7, 70)),
                tell(4, job=2, asked=[there(2, 7, 70)])]
        self.assertEqual(last(begins(3), *told, plan()), [3, 0, 1, 3, 1, 4])
        self.assertEqual(last(begins(3), put(1, 1), *told, plan()), [3, 0, 2, 2])

    def test_one_that_is_not_held_does_not_count(self):
        given = ask(begins(2), tell(1, job=1, asked=[there(0, 1, 1), gone(1, 1)]), tell(2, job=1, asked=[gone(1, 1)]),
                    tell(3, job=1), plan())
        self.assertEqual(given[2:], [[2, 1, 0], [2, 1, 0], [2, 0, 0]])


class WhatWasBrought(unittest.TestCase):
    def test_it_makes_no_area_known(self):
        told = [begins(2), tell(1, asked=[gone(0, 1)], made=(4, 40)), tell(2, job=1, asked=[there(1, 4, 40)])]
        given = ask(*told, bring(0), put(1, 1), plan(), bring(1), plan())
        self.assertEqual(given[3:], [[1, 1, 0, 4, 40], [1], [2, 0, 2], [1, 2, 0], [2, 0, 2]])

    def test_what_would_be_brought_now_counts_instead(self):
        given = ask(begins(2), tell(1, asked=[gone(0, 1)], made=(4, 40)), tell(2, asked=[there(0, 1, 1)], made=(5, 50)),
                    tell(3, job=1, asked=[which(1, 0, 9, 4)]), tell(4, job=1, asked=[which(1, 0, 9, 5)]),
                    bring(0), put(1, 1), plan())
        self.assertEqual(given[-1], [2, 1, 2, 1, 4])

    def test_the_same_before_and_behind(self):
        told = [begins(2), tell(1, made=(4, 40)), tell(2, job=1, asked=[there(1, 4, 40)])]
        self.assertEqual(ask(*told, plan(), bring(0), plan())[3::2], [[2, 1, 1, 1, 2]] * 2)

    def test_the_plan_changes_nothing(self):
        told = [begins(3), put(1, 1), tell(1, made=(4, 40)), tell(2, job=1, asked=[there(1, 4, 40)], made=(5, 50)),
                tell(3, job=2, asked=[there(2, 5, 50), gone(1, 9)])]
        plain = ask(*told, *state(3))[5:]
        given = ask(*told, plan(), plan(), *state(3))[5:]
        self.assertEqual(given, [[3, 1, 1, 1, 2, 1, 3]] * 2 + plain)


if __name__ == "__main__":
    unittest.main()
