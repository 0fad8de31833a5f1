"""Promise 3 (distrust), and promise 2's -3: a machine that isn't trusted any more."""

import unittest

from lines import TOP, ask, begins, bring, distrust, files, gone, held, last, look, nearest, plan, put, state, tell
from lines import there, which

WRONG_MADE = (1,)
WRONG_TRACE = [gone(0, 1), gone(0, 1)]


class Forgotten(unittest.TestCase):
    def test_all_that_the_machine_told(self):
        told = [tell(1, machine=7, asked=[gone(0, 1)]), tell(2, machine=8, asked=[there(0, 1, 1)]),
                tell(3, machine=7, asked=[there(0, 1, 2)]), tell(4, machine=9, asked=[there(0, 1, 3)])]
        given = ask(*told, look(0), distrust(7), held(), look(0), nearest(0), plan())
        self.assertEqual(given[4:], [[1, 1, 0], [2, 2, 4], [2, 2, 4], [0, 0, 0, 0, 1, 0], [1, 2, 0], [1, 0]])

    def test_of_all_jobs(self):
        told = [tell(job, job=job, machine=job % 2) for job in range(6)]
        given = ask(begins(6), *told, distrust(1), held(), plan(), look(1), nearest(3), look(4), nearest(4))
        self.assertEqual(given[7:], [
            [3, 0, 2, 4], [3, 0, 2, 4], [6, 1, 0, 0, 1, 2, 0, 1, 4, 0], [0, 0], [-8], [1, 4, 0], [0, 4]])

    def test_all_there_was(self):
        self.assertEqual(ask(tell(1, machine=TOP), tell(2, machine=TOP), distrust(TOP), held(), look(0))[2:],
                         [[0], [0], [0, 0]])

    def test_also_what_was_not_held(self):
        given = ask(tell(1, machine=1), tell(2, machine=2), tell(3, machine=2, ended=1), distrust(2), held(),
                    tell(2), tell(3, ended=1))
        self.assertEqual(given[1:], [[1], [2, 1, 0], [1, 1], [1, 1], [1], [2, 1, 0]])

    def test_the_machine_counts_and_not_the_number_or_the_job(self):
        given = ask(begins(2), tell(1, machine=2), tell(2, job=1, machine=1), distrust(2), held())
        self.assertEqual(given[3:], [[1, 2], [1, 2]])

    def test_numbers_are_free_again(self):
        given = ask(tell(1, machine=7), tell(2, machine=8), tell(1, machine=8), distrust(7),
                    tell(1, machine=8, ended=1), tell(2, machine=9), held())
        self.assertEqual(given, [[0], [1], [-4], [1, 2], [2, 2, 0], [-4], [2, 2]])

    def test_they_no_longer_count_towards_the_thirty(self):
        told = [tell(number, machine=number % 3) for number in range(30)]
        given = ask(*told, tell(30, machine=1), distrust(0), held(),
                    *[tell(number, machine=1) for number in range(30, 41)], held())
        self.assertEqual(given[30:33], [[-7], [1, 1], [20, 1]])
        self.assertEqual(given[33:], [[1]] * 10 + [[-7], [30, 1]])

    def test_a_number_told_again_has_its_place_at_the_end(self):
        given = ask(tell(1, machine=7, asked=[gone(0, 1)]), tell(2, machine=8, asked=[there(0, 1, 1)]), distrust(7),
                    tell(1, machine=8, asked=[gone(0, 1)]), held())
        self.assertEqual(given[2:], [[1, 2], [0], [2, 2, 1]])


class HeldNow(unittest.TestCase):
    def test_what_contradicted_a_forgotten_run(self):
        given = ask(tell(1, machine=1), tell(2, machine=2, ended=1, made=(4, 40)), look(0), distrust(1), look(0), held())
        self.assertEqual(given[1:], [[2, 1, 0], [1, 1, 0], [1, 2], [1, 2, 1, 4, 40], [1, 2]])

    def test_what_was_the_same_as_a_forgotten_run(self):
        given = ask(tell(1, machine=1, made=(4, 40)), tell(2, machine=2, made=(4, 40)), look(0), distrust(1), look(0), held())
        self.assertEqual(given[1:], [[1], [1, 1, 0, 4, 40], [1, 2], [1, 2, 0, 4, 40], [1, 2]])

    def test_the_first_of_those_that_contradict_each_other(self):
        told = [tell(1, machine=1), tell(2, machine=2, ended=1), tell(3, machine=3, asked=[gone(0, 1)]),
                tell(4, machine=4, asked=[there(0, 1, 1)])]
        given = ask(*told, distrust(1), distrust(2), held(), distrust(3), distrust(4), held())
        self.assertEqual(given[4:], [[1, 2], [2, 3, 4], [2, 3, 4], [1, 4], [0], [0]])

    def test_the_order_in_which_they_were_told(self):
        given = ask(tell(9, machine=1, asked=[gone(0, 1)]), tell(8, machine=2, asked=[gone(0, 2)]),
                    tell(7, machine=3, asked=[there(0, 1, 1)]), tell(6, machine=4, asked=[there(0, 2, 2)]),
                    held(), distrust(1), held())
        self.assertEqual(given, [[0], [2, 9, 0], [0], [2, 9, 0], [4, 9, 7], [2, 8, 6], [3, 8, 6]])

    def test_what_was_held_is_not_held_any_more(self):
        told = [tell(1, machine=1, asked=[gone(0, 1)]), tell(2, machine=2, asked=[gone(0, 2)]),
                tell(3, machine=3, asked=[there(0, 1, 1)])]
        given = ask(put(1, 1), *told, look(0), distrust(1), held(), look(0), tell(4, machine=3, asked=[there(0, 1, 1)]))
        self.assertEqual(given[4:], [[1, 3, 0], [1, 2], [2, 2], [1, 2, 0], [2, 2, 0]])

    def test_later_runs_are_judged_by_what_is_held_now(self):
        given = ask(tell(1, machine=1), tell(2, machine=2, ended=1), distrust(1), tell(3, machine=3),
                    tell(4, machine=3, ended=1))
        self.assertEqual(given[2:], [[1, 2], [2, 2, 0], [1]])

    def test_runs_of_other_jobs_stay(self):
        given = ask(begins(2), tell(1, machine=1), tell(2, job=1, machine=2, ended=1), tell(3, machine=2, ended=1),
                    distrust(1))
        self.assertEqual(given[3:], [[2, 1, 0], [2, 2, 3]])

    def test_numbers_need_not_rise(self):
        told = [tell(number, machine=2, asked=[there(0, 1, number)]) for number in (TOP, 5, 0, 9)]
        self.assertEqual(ask(*told, distrust(3), held())[4:], [[4, TOP, 5, 0, 9], [4, TOP, 5, 0, 9]])


class Areas(unittest.TestCase):
    def test_all_areas_of_jobs_are_empty_and_the_sources_stay(self):
        made = [tell(job, job=job, machine=job, made=(job, 10 + job)) for job in range(6)]
        given = ask(begins(6), put(9, 90), put(3, 30), *made, *[bring(job) for job in range(6)],
                    *[files(area) for area in range(7)], distrust(2), *[files(area) for area in range(7)])
        self.assertEqual(given[15:22], [[2, 3, 30, 9, 90]] + [[1, job, 10 + job] for job in range(6)])
        self.assertEqual(given[22], [5, 0, 1, 3, 4, 5])
        self.assertEqual(given[23:], [[2, 3, 30, 9, 90]] + [[0]] * 6)

    def test_also_what_other_machines_told(self):
        given = ask(begins(2), tell(1, machine=1, made=(4, 40)), tell(2, job=1, machine=1, asked=[there(1, 4, 40)]),
                    bring(0), look(1), distrust(5), files(1), look(1), bring(0), look(1))
        self.assertEqual(given[4:], [
            [1, 2, 0], [2, 1, 2], [0], [0, 0, 0, 1, 4, 0], [1, 1, 0, 4, 40], [1, 2, 0]])

    def test_they_can_be_brought_again(self):
        given = ask(begins(2), tell(1, machine=1, made=(4, 40)), tell(2, machine=2, made=(5, 50)), bring(0), distrust(1),
                    bring(0), files(1))
        self.assertEqual(given[2:], [[2, 1, 0], [1, 1, 0, 4, 40], [1, 2], [1, 2, 0, 5, 50], [1, 5, 50]])

    def test_there_are_as_many_jobs_as_before(self):
        given = ask(begins(3), distrust(1), plan(), files(3), files(4), look(2), look(3))
        self.assertEqual(given[1:], [[0], [3, 0, 0, 0], [0], [-2], [0, 0], [-2]])


class NotTrustedAlready(unittest.TestCase):
    def test_the_same_machine_again(self):
        self.assertEqual(ask(tell(1, machine=1), distrust(1), distrust(1), distrust(1)), [[0], [0], [-4], [-4]])

    def test_nothing_changes_then(self):
        before = [begins(2), put(3, 30), tell(1, machine=1), distrust(1), tell(2, machine=2, made=(4, 40)),
                  tell(3, machine=3, made=(4, 40)), tell(4, job=1, machine=3, asked=[there(1, 4, 40)]), bring(0)]
        plain = ask(*before, *state(2))[8:]
        self.assertIn([1, 4, 40], plain)
        self.assertEqual(ask(*before, distrust(1), *state(2))[8:], [[-4], *plain])

    def test_each_machine_by_itself(self):
        given = ask(tell(1, machine=1), distrust(0), distrust(2), distrust(TOP), distrust(1), distrust(1), distrust(0))
        self.assertEqual(given, [[0], [1, 1], [1, 1], [1, 1], [0], [-4], [-4]])


class NeverToldAnything(unittest.TestCase):
    def test_in_a_new_house(self):
        self.assertEqual(ask(distrust(0), distrust(0), tell(1, machine=0), tell(1, machine=1), held()),
                         [[0], [-4], [-3], [0], [1, 1]])

    def test_what_others_told_stays(self):
        given = ask(tell(5, machine=1), tell(6, machine=1), distrust(2), held(), tell(7, machine=2))
        self.assertEqual(given[2:], [[1, 5], [2, 5], [-3]])

    def test_its_refused_runs(self):
        self.assertEqual(ask(tell(5, machine=2, ended=2), tell(6, machine=1), distrust(2))[2], [1, 6])


class TellByThatMachine(unittest.TestCase):
    def test_it_is_refused(self):
        given = ask(tell(1, machine=4), distrust(4), tell(1, machine=4), tell(2, machine=4), tell(1, machine=5), held())
        self.assertEqual(given[1:], [[0], [-3], [-3], [0], [1, 1]])

    def test_a_job_or_an_end_that_is_wrong_is_told_first(self):
        given = ask(distrust(4), tell(1, machine=4, job=1), tell(1, machine=4, ended=2), tell(1, machine=4, job=TOP))
        self.assertEqual(given[1:], [[-2]] * 3)

    def test_where_a_later_refusal_would_fit(self):
        thirty = [tell(number, machine=5) for number in range(30)]
        for fault in ({"number": 3}, {"made": WRONG_MADE}, {"asked": WRONG_TRACE}, {},
                      {"number": 3, "made": WRONG_MADE, "asked": WRONG_TRACE}):
            run = {"number": 99, **fault}
            with self.subTest(fault=fault):
                given = ask(distrust(4), *thirty, tell(machine=4, **run), tell(machine=5, **run))
                self.assertEqual(given[-2], [-3])
                self.assertLess(given[-1][0], -3)

    def test_it_leaves_all_as_it_was(self):
        before = [begins(2), put(1, 1), distrust(4), tell(1, machine=5, made=(4, 40)), bring(0)]
        plain = ask(*before, *state(2))[5:]
        self.assertEqual(ask(*before, tell(2, machine=4, job=1), *state(2))[5:], [[-3], *plain])

    def test_other_calls_do_not_make_it_trusted_again(self):
        given = ask(distrust(4), put(1, 1), tell(1, machine=5), bring(0), plan(), distrust(5), begins(0), begins(7),
                    tell(2, machine=4), tell(2, machine=5), tell(2, machine=6))
        self.assertEqual(given[-3:], [[-3], [-3], [0]])


class BeginsTrustsAgain(unittest.TestCase):
    def test_all_machines(self):
        given = ask(distrust(4), distrust(5), begins(1), tell(1, machine=4), tell(2, machine=5), distrust(4), distrust(4))
        self.assertEqual(given[2:], [[0], [0], [1], [1, 2], [-4]])

    def test_a_refused_one_does_not(self):
        self.assertEqual(ask(distrust(4), begins(0), distrust(4), tell(1, machine=4))[1:], [[-1], [-4], [-3]])


class AsIfItHadNeverTold(unittest.TestCase):
    def test_all_is_as_without_it(self):
        own = [tell(1, machine=1, made=(4, 40)), tell(2, machine=1, job=1, asked=[there(1, 4, 40), gone(0, 8)]),
               tell(3, machine=1, job=2, asked=[which(2, 0, TOP)])]
        others = [tell(4, machine=2, asked=[gone(0, 1)], made=(5, 50)), tell(5, machine=3, job=1, asked=[there(1, 5, 50)]),
                  tell(6, machine=2, job=1, asked=[gone(1, 5)]), tell(7, machine=3, job=2, asked=[gone(0, 1), gone(2, 2)])]
        mixed = [own[0], others[0], own[1], others[1], own[2], *others[2:]]
        with_it = ask(begins(3), put(2, 2), *mixed, bring(0), distrust(1), *state(3), tell(1, machine=2), bring(0), *state(3))
        without = ask(begins(3), put(2, 2), *others, bring(0), distrust(1), *state(3), tell(1, machine=2), bring(0), *state(3))
        self.assertEqual(with_it[10:], without[7:])
        self.assertEqual(with_it[10], [4, 4, 5, 6, 7])


if __name__ == "__main__":
    unittest.main()
