"""held, and promise 3 as far as it speaks of files."""

import unittest

from lines import TOP, ask, begins, bring, distrust, drop, files, gone, held, last, look, put, state, tell, there


class Held(unittest.TestCase):
    def test_nothing_told(self):
        self.assertEqual(ask(held()), [[0]])
        self.assertEqual(last(begins(6), put(1, 1), held()), [0])

    def test_one(self):
        self.assertEqual(ask(tell(0), held()), [[0], [1, 0]])
        self.assertEqual(ask(tell(TOP), held()), [[0], [1, TOP]])

    def test_in_the_order_in_which_they_were_told(self):
        numbers = (7, 3, TOP, 0, 5)
        told = [tell(number, asked=[there(0, 1, number)]) for number in numbers]
        self.assertEqual(last(*told, held()), [5, *numbers])

    def test_of_all_jobs_in_one_row(self):
        given = ask(begins(3), tell(5, job=2), tell(4, job=0), tell(9, job=1), tell(1, job=0, ended=1), held())
        self.assertEqual(given[-1], [4, 5, 4, 9])

    def test_those_that_are_not_held_are_counted_but_not_named(self):
        given = ask(tell(4), held(), tell(5), held(), tell(6, ended=1), held(), tell(7, asked=[gone(0, 1)]), held())
        self.assertEqual(given[1::2], [[1, 4], [2, 4], [3, 4], [4, 4]])

    def test_refused_ones_are_not_counted(self):
        given = ask(tell(4), tell(4), tell(5, job=1), tell(5, ended=2), tell(5, made=(1,)),
                    tell(5, asked=[gone(0, 1), gone(0, 1)]), held())
        self.assertEqual(given[-1], [1, 4])

    def test_thirty(self):
        told = [tell(number, asked=[there(0, 1, number)]) for number in range(30)]
        self.assertEqual(ask(*told, tell(30), held())[-2:], [[-7], [30, *range(30)]])

    def test_nothing_behind_begins(self):
        self.assertEqual(ask(tell(4), begins(1), held(), begins(9), tell(5), begins(9), held())[2::4], [[0], [1, 5]])

    def test_what_the_files_are_does_not_matter(self):
        given = ask(tell(1, asked=[gone(0, 1)]), tell(2, asked=[there(0, 1, 5)]), held(), put(1, 5), held(), bring(0), held())
        self.assertEqual(given[2::2], [[2, 1, 2]] * 3)


class NoSuchArea(unittest.TestCase):
    def test_above_the_number_of_jobs(self):
        self.assertEqual(ask(files(0), files(1), files(2), files(TOP)), [[0], [0], [-2], [-2]])
        for jobs in range(1, 7):
            given = ask(begins(jobs), *[files(area) for area in range(9)])
            self.assertEqual(given[1:], [[0]] * (jobs + 1) + [[-2]] * (8 - jobs))

    def test_a_refusal_leaves_all_as_it_was(self):
        before = [begins(2), put(1, 10), tell(1, made=(4, 40)), tell(2, job=1), bring(0)]
        plain = ask(*before, *state(2))[5:]
        self.assertEqual(ask(*before, files(3), *state(2))[5:], [[-2], *plain])


class Sources(unittest.TestCase):
    def test_by_number_in_whatever_order_they_were_put(self):
        given = ask(put(9, 1), put(TOP, 2), put(3, TOP), put(0, 0), put(11, 5), files(0))
        self.assertEqual(given[-1], [5, 0, 0, 3, TOP, 9, 1, 11, 5, TOP, 2])

    def test_another_content_and_no_longer_there(self):
        given = ask(put(9, 1), put(3, 30), files(0), put(9, 2), files(0), drop(3), files(0), put(1, 1), files(0), drop(9),
                    files(0), drop(1), files(0))
        self.assertEqual(given[2::2], [[2, 3, 30, 9, 1], [2, 3, 30, 9, 2], [1, 9, 2], [2, 1, 1, 9, 2], [1, 1, 1], [0]])

    def test_thirty(self):
        sources = [put(29 - file, file) for file in range(30)]
        pairs = [number for file in range(30) for number in (file, 29 - file)]
        self.assertEqual(ask(*sources, put(30, 0), files(0))[-2:], [[-7], [30, *pairs]])

    def test_a_refused_drop(self):
        self.assertEqual(ask(put(9, 1), drop(8), files(0))[1:], [[-4], [1, 9, 1]])

    def test_bring_leaves_them(self):
        self.assertEqual(ask(put(9, 1), tell(1, made=(4, 40)), bring(0), files(0), files(1))[3:], [[1, 9, 1], [1, 4, 40]])


class AreasOfJobs(unittest.TestCase):
    def test_before_and_behind_bring(self):
        given = ask(begins(2), tell(1, made=(0, TOP, 4, 40, TOP, 0)), files(1), look(0), files(1), bring(0), files(1),
                    files(2), files(0))
        self.assertEqual([given[2], given[4]], [[0], [0]])
        self.assertEqual(given[6:], [[3, 0, TOP, 4, 40, TOP, 0], [0], [0]])

    def test_each_its_own(self):
        made = [tell(job, job=job, made=(job, 10 * job, 9, 9)) for job in range(6)]
        given = ask(begins(6), *made, *[bring(job) for job in (4, 1, 5, 0)], *[files(area) for area in range(7)])
        self.assertEqual(given[11:], [
            [0], [2, 0, 0, 9, 9], [2, 1, 10, 9, 9], [0], [0], [2, 4, 40, 9, 9], [2, 5, 50, 9, 9]])

    def test_brought_again_in_the_place_of_what_was_there(self):
        given = ask(tell(1, asked=[gone(0, 1)], made=(4, 40, 6, 60)), tell(2, asked=[there(0, 1, 1)], made=(5, 50)),
                    tell(3, asked=[there(0, 1, 2)]), bring(0), files(1), put(1, 1), files(1), bring(0), files(1),
                    put(1, 2), bring(0), files(1))
        self.assertEqual([given[4], given[6], given[8], given[11]], [[2, 4, 40, 6, 60], [2, 4, 40, 6, 60], [1, 5, 50], [0]])

    def test_a_refused_bring(self):
        given = ask(tell(1, asked=[gone(0, 1)], made=(4, 40)), bring(0), put(1, 1), bring(0), files(1))
        self.assertEqual(given[3:], [[-8], [1, 4, 40]])

    def test_empty_behind_begins(self):
        given = ask(begins(2), put(3, 30), tell(1, made=(4, 40)), bring(0), begins(2), files(0), files(1), files(2))
        self.assertEqual(given[5:], [[0], [0], [0]])

    def test_as_they_were_behind_a_refused_begins(self):
        given = ask(begins(2), put(3, 30), tell(1, made=(4, 40)), bring(0), begins(7), files(0), files(1))
        self.assertEqual(given[4:], [[-1], [1, 3, 30], [1, 4, 40]])

    def test_empty_behind_distrust(self):
        given = ask(put(3, 30), tell(1, made=(4, 40)), bring(0), distrust(9), files(0), files(1))
        self.assertEqual(given[3:], [[1, 1], [1, 3, 30], [0]])


if __name__ == "__main__":
    unittest.main()
