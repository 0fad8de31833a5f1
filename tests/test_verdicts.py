"""Promise 2: what tell answers of a run that it takes, and what is held to be so from then on."""

import unittest

from lines import ask, begins, gone, last, look, put, tell, there, which


class Held(unittest.TestCase):
    def test_the_first(self):
        self.assertEqual(ask(tell(5, asked=[gone(0, 1)])), [[0]])

    def test_asked_the_same_and_answered_otherwise(self):
        first = tell(1, asked=[gone(0, 1)])
        self.assertEqual(ask(first, tell(2, asked=[there(0, 1, 0)], ended=1), tell(3, asked=[there(0, 1, 1)])),
                         [[0], [0], [0]])

    def test_whatever_comes_behind(self):
        first = tell(1, asked=[there(0, 1, 5), gone(0, 2), gone(0, 3)], made=(1, 1))
        for number, asked in enumerate((
                [there(0, 1, 6), gone(0, 9), gone(0, 3)],
                [there(0, 1, 5), there(0, 2, 2)],
                [there(0, 1, 5), gone(0, 2), there(0, 3, 3), which(0, 7, 8)],
                [gone(0, 1)]), start=2):
            with self.subTest(asked=asked):
                self.assertEqual(last(first, tell(number, asked=asked, ended=1, made=(2, 2))), [0])

    def test_from_to_answered_otherwise(self):
        first = tell(1, asked=[which(0, 0, 9, 3), gone(0, 7)])
        self.assertEqual(last(first, tell(2, asked=[which(0, 0, 9, 4), gone(0, 8)])), [0])
        self.assertEqual(last(first, tell(2, asked=[which(0, 0, 9)])), [0])
        self.assertEqual(last(first, tell(2, asked=[which(0, 0, 9, 3, 4)])), [0])

    def test_runs_of_different_jobs(self):
        given = ask(begins(3), tell(1, job=0), tell(2, job=1, ended=1), tell(3, job=2, asked=[gone(0, 1)]))
        self.assertEqual(given, [[0], [0], [0], [0]])

    def test_the_same_but_of_another_job(self):
        given = ask(begins(2), tell(1, job=0, made=(1, 1)), tell(2, job=1, made=(1, 1)), look(0), look(1))
        self.assertEqual(given[2:], [[0], [1, 1, 0, 1, 1], [1, 2, 0, 1, 1]])


class Same(unittest.TestCase):
    def test_nothing_asked_and_nothing_made(self):
        self.assertEqual(ask(tell(1), tell(2)), [[0], [1]])

    def test_all_the_same(self):
        kinds = {"ended": 1, "made": (3, 4, 5, 6), "asked": [gone(0, 1), there(0, 2, 7), which(0, 5, 9, 6)]}
        self.assertEqual(ask(tell(1, machine=1, **kinds), tell(2, machine=2, **kinds)), [[0], [1]])

    def test_the_same_as_a_later_one(self):
        given = ask(tell(1, asked=[gone(0, 1)]), tell(2, asked=[there(0, 1, 1)]), tell(3, asked=[there(0, 1, 1)]))
        self.assertEqual(given, [[0], [0], [1]])

    def test_it_is_told_but_the_first_is_found(self):
        self.assertEqual(ask(tell(4, ended=1), tell(3, ended=1), look(0), tell(3)), [[0], [1], [1, 4, 1], [-4]])


class Contradicts(unittest.TestCase):
    def test_another_question_at_once(self):
        first = tell(8, asked=[gone(0, 1)])
        for asked in ([gone(0, 2)], [there(0, 2, 1)], [which(0, 1, 1)], [which(0, 0, 9, 1), gone(0, 3)]):
            with self.subTest(asked=asked):
                self.assertEqual(last(first, tell(9, asked=asked)), [2, 8, 0])

    def test_another_area(self):
        self.assertEqual(last(begins(2), tell(8, job=1, asked=[gone(0, 1)]), tell(9, job=1, asked=[gone(1, 1)])),
                         [2, 8, 0])

    def test_another_from_or_to(self):
        first = tell(8, asked=[which(0, 2, 5)])
        self.assertEqual(last(first, tell(9, asked=[which(0, 2, 6)])), [2, 8, 0])
        self.assertEqual(last(first, tell(9, asked=[which(0, 1, 5)])), [2, 8, 0])

    def test_another_question_behind_some_that_agree(self):
        first = tell(8, asked=[gone(0, 1), there(0, 2, 5), gone(0, 3), gone(0, 4)])
        second = tell(9, asked=[gone(0, 1), there(0, 2, 5), gone(0, 4), gone(0, 3)])
        self.assertEqual(last(first, second), [2, 8, 2])

    def test_one_is_over_while_the_other_is_not(self):
        short = [gone(0, 1)]
        long = [gone(0, 1), gone(0, 2)]
        self.assertEqual(last(tell(8, asked=short), tell(9, asked=long)), [2, 8, 1])
        self.assertEqual(last(tell(8, asked=long), tell(9, asked=short)), [2, 8, 1])
        self.assertEqual(last(tell(8), tell(9, asked=long)), [2, 8, 0])
        self.assertEqual(last(tell(8, asked=long), tell(9)), [2, 8, 0])

    def test_both_are_over_and_ended_otherwise(self):
        self.assertEqual(last(tell(8), tell(9, ended=1)), [2, 8, 0])
        asked = [gone(0, 1), gone(0, 2)]
        self.assertEqual(last(tell(8, asked=asked, ended=1), tell(9, asked=asked)), [2, 8, 2])

    def test_both_are_over_and_made_otherwise(self):
        asked = [gone(0, 1), which(0, 5, 6), there(0, 2, 2)]
        first = tell(8, asked=asked, made=(1, 5, 2, 6))
        for made in ((), (1, 5), (1, 5, 2, 7), (1, 5, 3, 6), (1, 5, 2, 6, 3, 7)):
            with self.subTest(made=made):
                self.assertEqual(last(first, tell(9, asked=asked, made=made)), [2, 8, 3])

    def test_twelve_questions(self):
        asked = [gone(0, file) for file in range(12)]
        self.assertEqual(last(tell(8, asked=asked), tell(9, asked=asked, ended=1)), [2, 8, 12])
        self.assertEqual(last(tell(8, asked=asked), tell(9, asked=asked[:11])), [2, 8, 11])

    def test_the_first_of_several(self):
        given = ask(tell(8, asked=[gone(0, 1), gone(0, 2)]),
                    tell(7, asked=[there(0, 1, 1), gone(0, 2)]),
                    tell(6, asked=[gone(0, 1), there(0, 2, 2), gone(0, 3)]),
                    tell(5, asked=[gone(0, 1), there(0, 2, 2), gone(0, 4)]),
                    tell(4, asked=[there(0, 1, 1), gone(0, 3)]),
                    tell(3))
        self.assertEqual(given, [[0], [0], [0], [2, 6, 2], [2, 7, 1], [2, 8, 0]])

    def test_the_first_in_the_order_told(self):
        given = ask(tell(9, asked=[gone(0, 1)]), tell(2, asked=[there(0, 1, 1)]), tell(1, asked=[gone(0, 5)]))
        self.assertEqual(given[2], [2, 9, 0])

    def test_runs_of_other_jobs_are_passed_over(self):
        given = ask(begins(2), tell(1, job=1, asked=[gone(0, 1)]), tell(2, job=0), tell(3, job=0, ended=1))
        self.assertEqual(given[3], [2, 2, 0])


class NotHeld(unittest.TestCase):
    def test_later_runs_are_held_only_against_those_that_are_held(self):
        given = ask(tell(1, asked=[gone(0, 1)]), tell(2, asked=[there(0, 2, 2)]),
                    tell(3, asked=[there(0, 1, 1)]), tell(4, asked=[there(0, 2, 2)]))
        self.assertEqual(given, [[0], [2, 1, 0], [0], [2, 1, 0]])

    def test_one_like_a_run_that_is_not_held_is_not_the_same(self):
        self.assertEqual(ask(tell(1), tell(2, ended=1), tell(3, ended=1)), [[0], [2, 1, 0], [2, 1, 0]])

    def test_it_is_not_found(self):
        given = ask(put(2, 2), tell(1, asked=[gone(0, 2)]), tell(2, asked=[there(0, 2, 2), gone(0, 3)]),
                    tell(3, asked=[there(0, 2, 2), gone(0, 4)]), look(0), put(3, 3), look(0))
        self.assertEqual(given[3:], [[2, 2, 1], [1, 2, 0], [2], [0, 1, 0, 0, 3, 1, 3]])

    def test_its_number_is_taken_and_it_counts(self):
        told = [tell(1)] + [tell(number, ended=1) for number in range(2, 31)]
        given = ask(*told, tell(30), tell(31))
        self.assertEqual(given, [[0]] + [[2, 1, 0]] * 29 + [[-4], [-7]])


if __name__ == "__main__":
    unittest.main()
