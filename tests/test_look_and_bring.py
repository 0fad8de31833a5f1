"""Promise 3, as far as it speaks of look and bring."""

import unittest

from lines import TOP, ask, begins, bring, drop, gone, last, look, put, tell, there, which


class NoSuchJob(unittest.TestCase):
    def test_look_and_bring(self):
        self.assertEqual(ask(look(1), bring(1), look(TOP), bring(TOP)), [[-2]] * 4)
        self.assertEqual(ask(begins(6), look(6), bring(6), look(5), bring(5)), [[0], [-2], [-2], [0, 0], [-8]])


class NoneHeld(unittest.TestCase):
    def test_nothing_told(self):
        self.assertEqual(ask(look(0), bring(0)), [[0, 0], [-8]])

    def test_only_of_other_jobs(self):
        self.assertEqual(ask(begins(3), tell(1, job=0), tell(2, job=2), look(1), bring(1))[3:], [[0, 0], [-8]])


class Found(unittest.TestCase):
    def test_a_run_that_asked_nothing(self):
        self.assertEqual(ask(tell(7, ended=1), look(0), bring(0)), [[0], [1, 7, 1], [1, 7, 1]])

    def test_what_it_made(self):
        made = (1, 10, 2, 5, TOP, 0)
        self.assertEqual(ask(tell(7, made=made), look(0), bring(0)), [[0], [1, 7, 0, *made], [1, 7, 0, *made]])

    def test_all_sorts_of_questions(self):
        given = ask(put(1, 10), put(3, 30), put(5, 50),
                    tell(7, asked=[there(0, 1, 10), gone(0, 2), which(0, 2, 5, 3, 5), which(0, 6, 9)]), look(0))
        self.assertEqual(given[-1], [1, 7, 0])

    def test_the_one_of_several_that_fits(self):
        runs = [tell(1, asked=[gone(0, 1)], made=(1, 1)),
                tell(2, asked=[there(0, 1, 5), gone(0, 2)], made=(2, 2)),
                tell(3, asked=[there(0, 1, 5), there(0, 2, 0)], ended=1)]
        given = ask(*runs, look(0), put(1, 5), look(0), put(2, 0), look(0), drop(1), look(0), drop(2), bring(0))
        self.assertEqual(given[3::2], [
            [1, 1, 0, 1, 1], [1, 2, 0, 2, 2], [1, 3, 1], [1, 1, 0, 1, 1], [1, 1, 0, 1, 1]])

    def test_a_content_of_nought_is_there(self):
        given = ask(put(1, 0), tell(1, asked=[there(0, 1, 0)]), look(0), drop(1), look(0))
        self.assertEqual(given[2:], [[1, 1, 0], [0], [0, 0, 0, 0, 1, 0]])


class NotFound(unittest.TestCase):
    def test_a_file_that_is_not_there(self):
        self.assertEqual(last(tell(1, asked=[there(0, 9, 5)]), look(0)), [0, 0, 0, 0, 9, 0])

    def test_a_file_with_another_content(self):
        self.assertEqual(last(put(9, 6), tell(1, asked=[there(0, 9, 5)]), look(0)), [0, 0, 0, 0, 9, 1, 6])

    def test_a_file_that_is_there_now(self):
        self.assertEqual(last(put(9, 0), tell(1, asked=[gone(0, 9)]), look(0)), [0, 0, 0, 0, 9, 1, 0])

    def test_from_to(self):
        sources = [put(7, 0), put(3, 0), put(5, 0), put(2, 0), put(8, 0)]
        self.assertEqual(last(*sources, tell(1, asked=[which(0, 3, 7, 5)]), look(0)), [0, 0, 1, 0, 3, 7, 3, 3, 5, 7])
        self.assertEqual(last(*sources, tell(1, asked=[which(0, 9, TOP, 10)]), look(0)), [0, 0, 1, 0, 9, TOP, 0])

    def test_from_to_with_as_many_other_files(self):
        self.assertEqual(last(put(4, 0), tell(1, asked=[which(0, 0, 9, 5)]), look(0)), [0, 0, 1, 0, 0, 9, 1, 4])

    def test_how_far_one_comes(self):
        asked = [gone(0, 1), there(0, 2, 5), which(0, 3, 6, 4), gone(0, 9)]
        given = ask(tell(1, asked=asked), look(0), put(2, 5), look(0), put(4, 0), look(0), put(9, 1), look(0),
                    put(1, 1), look(0))
        self.assertEqual(given[1::2], [
            [0, 1, 0, 0, 2, 0],
            [0, 2, 1, 0, 3, 6, 0],
            [1, 1, 0],
            [0, 3, 0, 0, 9, 1, 1],
            [0, 0, 0, 0, 1, 1, 1]])

    def test_answers_behind_the_first_wrong_one_do_not_count(self):
        asked = [gone(0, 1), there(0, 2, 5), gone(0, 3), gone(0, 4)]
        self.assertEqual(last(tell(1, asked=asked), look(0)), [0, 1, 0, 0, 2, 0])

    def test_the_run_that_comes_farthest(self):
        given = ask(put(1, 5), put(2, 5),
                    tell(1, asked=[gone(0, 1), gone(0, 7)]),
                    tell(2, asked=[there(0, 1, 5), gone(0, 2), gone(0, 8)]),
                    tell(3, asked=[there(0, 1, 5), there(0, 2, 5), there(0, 3, 3), gone(0, 6)]),
                    tell(4, asked=[there(0, 1, 5), there(0, 2, 5), there(0, 3, 4)]),
                    look(0))
        self.assertEqual(given[2:], [[0], [0], [0], [0], [0, 2, 0, 0, 3, 0]])

    def test_another_one_than_the_first_comes_farthest(self):
        given = ask(put(1, 5), tell(1, asked=[there(0, 1, 6), gone(0, 2)]),
                    tell(2, asked=[there(0, 1, 5), there(0, 3, 3)]), look(0))
        self.assertEqual(given[-1], [0, 1, 0, 0, 3, 0])

    def test_runs_that_are_not_held_do_not_count(self):
        given = ask(tell(1, asked=[there(0, 1, 5)]), tell(2, asked=[gone(0, 2)]), tell(3), look(0), bring(0))
        self.assertEqual(given, [[0], [2, 1, 0], [2, 1, 0], [0, 0, 0, 0, 1, 0], [-8]])

    def test_only_runs_of_the_job_count(self):
        given = ask(begins(2), tell(1, job=0, asked=[there(0, 1, 5)]), tell(2, job=1), look(0), look(1))
        self.assertEqual(given[3:], [[0, 0, 0, 0, 1, 0], [1, 2, 0]])

    def test_twelve_questions(self):
        asked = [gone(0, file) for file in range(11)] + [there(0, 11, 1)]
        self.assertEqual(ask(tell(1, asked=asked), look(0), put(11, 1), look(0))[1::2], [[0, 11, 0, 0, 11, 0], [1, 1, 0]])


class Bring(unittest.TestCase):
    def test_what_is_not_found_is_refused(self):
        self.assertEqual(ask(tell(1, asked=[there(0, 1, 5)]), bring(0)), [[0], [-8]])

    def test_a_refusal_leaves_the_area_as_it_was(self):
        given = ask(begins(2), tell(1, asked=[gone(0, 1)], made=(4, 40)), bring(0), put(1, 1), bring(0),
                    tell(2, job=1, asked=[which(1, 0, TOP, 4), there(1, 4, 40)]), look(1))
        self.assertEqual(given[4:], [[-8], [0], [1, 2, 0]])

    def test_look_brings_nothing(self):
        given = ask(begins(2), tell(1, made=(4, 40)), look(0), tell(2, job=1, asked=[there(1, 4, 40)]), look(1))
        self.assertEqual(given[-1], [0, 0, 0, 1, 4, 0])

    def test_other_jobs_read_what_it_made(self):
        reads = tell(2, job=1, asked=[which(1, 0, 9, 4, 6), there(1, 4, 40), gone(1, 5)], made=(7, 70))
        given = ask(begins(3), tell(1, made=(4, 40, 6, 60)), reads,
                    tell(3, job=2, asked=[there(2, 7, 70), there(1, 6, 60), gone(0, 4)]),
                    look(1), bring(0), look(1), look(2), bring(1), look(2))
        self.assertEqual(given[4:], [
            [0, 0, 1, 1, 0, 9, 0],
            [1, 1, 0, 4, 40, 6, 60],
            [1, 2, 0, 7, 70],
            [0, 0, 0, 2, 7, 0],
            [1, 2, 0, 7, 70],
            [1, 3, 0]])

    def test_in_the_place_of_what_was_there(self):
        given = ask(begins(2), tell(1, asked=[gone(0, 1)], made=(4, 40, 5, 50)),
                    tell(2, asked=[there(0, 1, 1)], made=(5, 51)),
                    tell(3, job=1, asked=[which(1, 0, 9, 9)]), tell(4, job=1, asked=[which(1, 0, 9, 5), there(1, 5, 9)]),
                    bring(0), look(1), put(1, 1), bring(0), look(1))
        self.assertEqual(given[6], [0, 0, 1, 1, 0, 9, 2, 4, 5])
        self.assertEqual(given[-1], [0, 1, 0, 1, 5, 1, 51])

    def test_a_run_that_made_nothing_empties_the_area(self):
        given = ask(begins(2), tell(1, asked=[gone(0, 1)], made=(4, 40)), tell(2, asked=[there(0, 1, 1)]),
                    tell(3, job=1, asked=[which(1, 0, TOP)]), bring(0), look(1), put(1, 1), bring(0), look(1))
        self.assertEqual(given[5:], [[0, 0, 1, 1, 0, TOP, 1, 4], [1], [1, 2, 0], [1, 3, 0]])

    def test_each_job_has_its_own_area(self):
        made = [tell(job, job=job, made=(job, 10 * job)) for job in range(5)]
        asked = [gone(0, 0)] + [which(area, 0, TOP, area - 1) for area in range(1, 6)] + [there(5, 4, 40)]
        given = ask(begins(6), *made, *[bring(job) for job in range(5)], tell(9, job=5, asked=asked), look(5))
        self.assertEqual(given[-1], [1, 9, 0])

    def test_a_run_that_ended_with_one_is_brought_too(self):
        given = ask(begins(2), tell(1, ended=1, made=(4, 40)), bring(0), tell(2, job=1, asked=[there(1, 4, 40)]), look(1))
        self.assertEqual(given[2:], [[1, 1, 1, 4, 40], [0], [1, 2, 0]])

    def test_sources_stay_as_they_are(self):
        given = ask(put(4, 1), tell(1, asked=[there(0, 4, 1)], made=(4, 40)), bring(0), bring(0), look(0), put(5, 5))
        self.assertEqual(given[2:], [[1, 1, 0, 4, 40]] * 3 + [[2]])

    def test_it_stays_till_it_is_brought_again(self):
        given = ask(begins(2), tell(1, asked=[gone(0, 1)], made=(4, 40)), tell(2, job=1, asked=[there(1, 4, 40)]),
                    bring(0), put(1, 1), look(0), look(1))
        self.assertEqual(given[-2:], [[0, 0, 0, 0, 1, 1, 1], [1, 2, 0]])


class PutAndDrop(unittest.TestCase):
    def test_they_change_what_is_found(self):
        given = ask(put(1, 5), tell(1, asked=[there(0, 1, 5), which(0, 0, 9, 1)]), look(0), put(1, 6), look(0),
                    put(1, 5), put(2, 0), look(0), drop(2), look(0), drop(1), look(0), bring(0))
        self.assertEqual(given[2:], [
            [1, 1, 0], [1], [0, 0, 0, 0, 1, 1, 6],
            [1], [2], [0, 1, 1, 0, 0, 9, 2, 1, 2], [1], [1, 1, 0],
            [0], [0, 0, 0, 0, 1, 0], [-8]])

    def test_refused_ones_do_not(self):
        thirty = [put(file, 1) for file in range(30)]
        given = ask(*thirty, tell(1, asked=[gone(0, 30), which(0, 0, TOP, *range(30))]), put(30, 1), drop(31), look(0))
        self.assertEqual(given[30:], [[0], [-7], [-4], [1, 1, 0]])


if __name__ == "__main__":
    unittest.main()
