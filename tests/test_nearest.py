"""Promise 3, as far as it speaks of nearest."""

import unittest

from lines import TOP, ask, begins, bring, drop, gone, last, look, nearest, put, state, tell, there, which


class Refusals(unittest.TestCase):
    def test_no_such_job(self):
        self.assertEqual(ask(nearest(1), nearest(TOP)), [[-2], [-2]])
        self.assertEqual(ask(begins(6), nearest(6), nearest(5)), [[0], [-2], [-8]])
        self.assertEqual(last(begins(2), tell(1), tell(2, job=1), nearest(2)), [-2])

    def test_none_told(self):
        self.assertEqual(ask(nearest(0)), [[-8]])

    def test_only_of_other_jobs(self):
        given = ask(begins(3), tell(1), tell(2, job=2), nearest(0), nearest(1), nearest(2))
        self.assertEqual(given[3:], [[0, 1], [-8], [0, 2]])

    def test_a_refused_run_is_not_told(self):
        self.assertEqual(last(tell(1, asked=[gone(0, 1), gone(0, 1)]), nearest(0)), [-8])

    def test_a_refusal_leaves_all_as_it_was(self):
        before = [begins(3), put(1, 10), tell(1, asked=[there(0, 1, 10)], made=(4, 40)), tell(2, job=1), bring(0)]
        plain = ask(*before, *state(3))[5:]
        given = ask(*before, nearest(2), nearest(3), *state(3))[5:]
        self.assertEqual(given, [[-8], [-2], *plain])


class NoneWrong(unittest.TestCase):
    def test_a_run_that_asked_nothing(self):
        self.assertEqual(ask(tell(7, ended=1, made=(1, 1)), nearest(0)), [[0], [0, 7]])

    def test_all_sorts_of_questions(self):
        given = ask(put(1, 10), put(3, 30), put(5, 50),
                    tell(7, asked=[there(0, 1, 10), gone(0, 2), which(0, 2, 5, 3, 5), which(0, 6, 9)], made=(4, 4)),
                    nearest(0))
        self.assertEqual(given[-1], [0, 7])

    def test_the_one_that_is_found_though_it_came_late(self):
        given = ask(put(1, 5), tell(4, asked=[gone(0, 1)]), tell(3, asked=[there(0, 1, 6)]),
                    tell(2, asked=[there(0, 1, 5), gone(0, 2), gone(0, 3)]), nearest(0), look(0))
        self.assertEqual(given[-2:], [[0, 2], [1, 2, 0]])


class SomeWrong(unittest.TestCase):
    def test_one_at_each_place(self):
        for place in range(12):
            asked = [there(0, file, 1) if file == place else gone(0, file) for file in range(12)]
            with self.subTest(place=place):
                self.assertEqual(last(tell(9, asked=asked), nearest(0)), [1, 9, place])

    def test_all_of_twelve(self):
        asked = [there(0, file, 1) for file in range(12)]
        self.assertEqual(last(tell(9, asked=asked), nearest(0)), [12, 9, *range(12)])

    def test_answers_behind_a_wrong_one_count_too(self):
        asked = [there(0, 1, 5), gone(0, 2), which(0, 5, 9, 7), gone(0, 3), there(0, 4, 4)]
        given = ask(tell(9, asked=asked), nearest(0), put(4, 4), nearest(0), put(7, 0), nearest(0), put(3, 3), nearest(0),
                    put(1, 6), nearest(0), put(1, 5), nearest(0), drop(3), nearest(0))
        self.assertEqual(given[1::2], [
            [3, 9, 0, 2, 4], [2, 9, 0, 2], [1, 9, 0], [2, 9, 0, 3], [2, 9, 0, 3], [1, 9, 3], [0, 9]])

    def test_all_ways_to_be_wrong(self):
        asked = [gone(0, 1), there(0, 2, 5), there(0, 3, 0), which(0, 10, 19), which(0, 20, 29, 22), which(0, 30, 39, 33)]
        given = ask(put(1, 0), put(2, 6), put(12, 0), put(23, 0), tell(9, asked=asked), nearest(0))
        self.assertEqual(given[-1], [6, 9, 0, 1, 2, 3, 4, 5])

    def test_the_edges_of_from_to(self):
        asked = [which(0, 3, 5, 3, 5), which(0, 6, 8)]
        given = ask(put(3, 0), put(5, 0), put(2, 0), put(9, 0), tell(1, asked=asked), nearest(0),
                    put(6, 0), nearest(0), put(4, 0), nearest(0), drop(6), put(8, 0), nearest(0))
        self.assertEqual([given[5], given[7], given[9], given[12]], [[0, 1], [1, 1, 1], [2, 1, 0, 1], [2, 1, 0, 1]])

    def test_a_content_of_nought_is_there(self):
        given = ask(put(1, 0), tell(1, asked=[there(0, 1, 0)]), nearest(0), drop(1), nearest(0))
        self.assertEqual(given[2:], [[0, 1], [0], [1, 1, 0]])


class OfSeveral(unittest.TestCase):
    def test_the_fewest(self):
        given = ask(tell(4, asked=[there(0, 1, 1), there(0, 2, 2), there(0, 3, 3)]),
                    tell(5, asked=[there(0, 1, 2), gone(0, 9)]),
                    tell(6, asked=[there(0, 1, 1), there(0, 2, 3), gone(0, 3)]),
                    nearest(0))
        self.assertEqual(given, [[0], [0], [0], [1, 5, 0]])

    def test_it_is_not_who_comes_farthest(self):
        far = [gone(0, 1), gone(0, 2), gone(0, 3), there(0, 4, 4), there(0, 5, 5)]
        near = [there(0, 1, 1), gone(0, 7)]
        given = ask(tell(1, asked=far), tell(2, asked=near), nearest(0), look(0))
        self.assertEqual(given[2:], [[1, 2, 0], [0, 3, 0, 0, 4, 0]])

    def test_as_many_the_first_that_was_told(self):
        for numbers in ((5, 3, 4), (3, 4, 5), (TOP, 0, 1)):
            told = [tell(number, asked=[there(0, 1, content)]) for content, number in enumerate(numbers)]
            with self.subTest(numbers=numbers):
                self.assertEqual(last(*told, nearest(0)), [1, numbers[0], 0])

    def test_as_many_at_other_places(self):
        given = ask(put(1, 1), tell(8, asked=[there(0, 1, 1), there(0, 2, 2)]),
                    tell(7, asked=[there(0, 1, 2), gone(0, 2)]), nearest(0), put(2, 2), nearest(0), put(1, 2), nearest(0))
        self.assertEqual(given[3::2], [[1, 8, 1], [0, 8], [1, 8, 0]])

    def test_a_later_one_only_if_it_has_fewer(self):
        given = ask(tell(8, asked=[there(0, 1, 1), there(0, 2, 2)]), tell(7, asked=[there(0, 1, 2), there(0, 2, 2)]),
                    nearest(0), put(1, 2), nearest(0), put(1, 1), nearest(0))
        self.assertEqual(given[2::2], [[2, 8, 0, 1], [1, 7, 1], [1, 8, 1]])

    def test_one_that_is_not_held_does_not_count(self):
        given = ask(tell(1, asked=[there(0, 1, 5), there(0, 2, 5)]), tell(2, asked=[gone(0, 2)]), tell(3), nearest(0))
        self.assertEqual(given, [[0], [2, 1, 0], [2, 1, 0], [2, 1, 0, 1]])

    def test_one_that_is_the_same_does_not_count(self):
        given = ask(tell(6, asked=[there(0, 1, 5)]), tell(2, asked=[there(0, 1, 5)]), nearest(0))
        self.assertEqual(given, [[0], [1], [1, 6, 0]])

    def test_runs_of_other_jobs_do_not_count(self):
        given = ask(begins(3), tell(1, job=0), tell(2, job=1, asked=[there(0, 1, 5)]), tell(3, job=2),
                    nearest(1))
        self.assertEqual(given[-1], [1, 2, 0])


class AreasOfJobs(unittest.TestCase):
    def test_before_and_behind_bring(self):
        asked = [there(1, 4, 40), gone(1, 5), which(1, 0, 9, 4), gone(0, 4), which(1, 5, 9)]
        given = ask(begins(2), tell(1, made=(4, 40)), tell(2, job=1, asked=asked), nearest(1), bring(0), nearest(1))
        self.assertEqual(given[3::2], [[2, 2, 0, 2], [0, 2]])

    def test_what_was_brought_in_its_place(self):
        given = ask(begins(2), tell(1, asked=[gone(0, 1)], made=(4, 40)), tell(2, asked=[there(0, 1, 1)], made=(5, 50)),
                    tell(3, job=1, asked=[there(1, 4, 40), gone(0, 1)]),
                    tell(4, job=1, asked=[there(1, 4, 41), gone(0, 2)]),
                    tell(5, job=1, asked=[gone(1, 4), there(1, 5, 50), gone(0, 8), there(0, 9, 9)]),
                    nearest(1), bring(0), nearest(1), put(1, 1), nearest(1), bring(0), nearest(1), put(9, 9), nearest(1))
        self.assertEqual(given[6::2], [[1, 3, 0], [0, 3], [1, 3, 1], [1, 4, 0], [0, 5]])

    def test_nothing_is_brought_by_it(self):
        given = ask(begins(2), tell(1, made=(4, 40)), tell(2, job=1, asked=[there(1, 4, 40)]), nearest(0), nearest(1))
        self.assertEqual(given[3:], [[0, 1], [1, 2, 0]])


if __name__ == "__main__":
    unittest.main()
