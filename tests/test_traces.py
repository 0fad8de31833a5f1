"""Promise 2, -6: each part of what makes a trace right."""

import unittest

from lines import TOP, begins, gone, last, tell, there, which


def told(asked, job=0):
    return last(begins(6), tell(1, job=job, asked=asked))[0]


class TraceCase(unittest.TestCase):
    def right(self, *asked, job=0):
        self.assertEqual(told(asked, job), 0)
        self.assertEqual(told(asked[::-1], job), 0)

    def wrong(self, *asked, job=0):
        self.assertEqual(told(asked, job), -6)
        self.assertEqual(told(asked[::-1], job), -6)


class HowMany(TraceCase):
    def test_none_to_twelve(self):
        for count in range(13):
            self.right(*[gone(0, file) for file in range(count)])

    def test_thirteen_and_fourteen(self):
        self.wrong(*[gone(0, file) for file in range(13)])
        self.wrong(*[gone(0, file) for file in range(14)])

    def test_many_from_to(self):
        self.right(*[which(0, 10 * part, 10 * part + 9) for part in range(12)])
        self.wrong(*[which(0, 10 * part, 10 * part + 9) for part in range(13)])


class FromTo(TraceCase):
    def test_from_is_not_above_to(self):
        self.right(which(0, 0, 0))
        self.right(which(0, TOP, TOP, TOP))
        self.right(which(0, 4, 5))
        self.wrong(which(0, 5, 4))
        self.wrong(which(0, TOP, 0))

    def test_files_rise(self):
        self.right(which(0, 0, 9, 0, 3, 9))
        self.wrong(which(0, 0, 9, 3, 0, 9))
        self.wrong(which(0, 0, 9, 0, 9, 3))
        self.wrong(which(0, 0, 9, 3, 3))

    def test_files_lie_within(self):
        self.right(which(0, 3, 5, 3, 4, 5))
        self.wrong(which(0, 3, 5, 2))
        self.wrong(which(0, 3, 5, 6))
        self.wrong(which(0, 3, 5, 2, 4))
        self.wrong(which(0, 3, 5, 4, 6))
        self.wrong(which(0, 3, 5, 0, TOP))

    def test_as_many_files_as_can_be_handed_in(self):
        self.right(which(0, 0, TOP, *range(36)))

    def test_a_wrong_one_behind_right_ones(self):
        self.wrong(gone(0, 1), which(0, 5, 4), gone(0, 2))
        self.wrong(gone(0, 1), which(0, 4, 5, 6), gone(0, 2))


class Areas(TraceCase):
    def test_up_to_the_number_of_the_job(self):
        for job in range(6):
            for area in range(job + 1):
                self.right(gone(area, 1), there(area, 2, 9), which(area, 5, 6), job=job)

    def test_above_the_number_of_the_job(self):
        for job in range(6):
            for area in (job + 1, job + 2, TOP):
                self.wrong(gone(area, 1), job=job)
                self.wrong(there(area, 1, 1), job=job)
                self.wrong(which(area, 0, 1), job=job)
                self.wrong(gone(0, 1), gone(area, 1), job=job)


class Twice(TraceCase):
    def test_the_same_with_the_same_answer(self):
        self.wrong(gone(0, 1), gone(0, 1))
        self.wrong(there(0, 1, 5), there(0, 1, 5))
        self.wrong(which(0, 1, 5, 3), which(0, 1, 5, 3))
        self.wrong(which(0, 1, 5), which(0, 1, 5))

    def test_the_same_with_another_answer(self):
        self.wrong(gone(0, 1), there(0, 1, 5))
        self.wrong(there(0, 1, 5), there(0, 1, 6))
        self.wrong(which(0, 1, 5, 3), which(0, 1, 5, 4))
        self.wrong(which(0, 1, 5), which(0, 1, 5, 4))

    def test_with_others_between(self):
        self.wrong(gone(0, 1), gone(0, 2), which(0, 5, 6), gone(0, 1))

    def test_another_area_is_another_question(self):
        self.right(gone(0, 1), there(1, 1, 5), job=1)
        self.right(which(0, 0, 5, 3), which(1, 0, 5), job=1)

    def test_another_file_or_another_end_is_another_question(self):
        self.right(gone(0, 1), gone(0, 2))
        self.right(which(0, 1, 5, 3), which(0, 1, 6, 3), which(0, 0, 5, 3))

    def test_a_file_is_not_a_question_from_to(self):
        self.right(there(0, 1, 5), which(0, 1, 5, 1))
        self.right(there(0, 1, 1), which(0, 1, 1, 1))


class FileAndFromTo(TraceCase):
    def test_there_and_standing_there(self):
        self.right(there(0, 4, 9), which(0, 2, 6, 4))
        self.right(there(0, 2, 9), which(0, 2, 6, 2))
        self.right(there(0, 6, 9), which(0, 2, 6, 6))

    def test_there_and_not_standing_there(self):
        for file in (2, 4, 6):
            self.wrong(there(0, file, 9), which(0, 2, 6, 3, 5))

    def test_not_there_and_standing_there(self):
        for file in (2, 4, 6):
            self.wrong(gone(0, file), which(0, 2, 6, 2, 4, 6))

    def test_not_there_and_not_standing_there(self):
        self.right(gone(0, 4), which(0, 2, 6, 3, 5))

    def test_outside_it_does_not_matter(self):
        self.right(there(0, 1, 9), there(0, 7, 9), which(0, 2, 6))
        self.right(gone(0, 1), gone(0, 7), which(0, 2, 6, 2, 6))

    def test_how_many_files_there_are_is_no_file(self):
        self.right(gone(0, 2), which(0, 0, 9, 5, 6))
        self.wrong(there(0, 2, 9), which(0, 0, 9, 5, 6))

    def test_a_content_is_no_file(self):
        self.right(there(0, 2, 5), which(0, 4, 6))
        self.right(there(0, 2, 0), which(0, 0, 4, 2))
        self.wrong(there(0, 2, 0), which(0, 0, 4))

    def test_each_of_several(self):
        self.wrong(there(0, 4, 9), which(0, 0, 4, 4), which(0, 4, 8, 4), which(0, 3, 5))
        self.wrong(which(0, 0, 4, 4), gone(0, 9), gone(0, 4))

    def test_other_areas_do_not_bear_on_it(self):
        self.right(there(0, 4, 9), which(1, 0, 9), job=1)
        self.right(gone(1, 4), which(0, 0, 9, 4), job=1)
        self.wrong(gone(1, 4), which(0, 0, 9, 4), which(1, 0, 9, 4), job=1)


class TwoFromTo(TraceCase):
    def test_the_same_where_they_overlap(self):
        self.right(which(0, 0, 5, 1, 4, 5), which(0, 4, 9, 4, 5, 8))
        self.right(which(0, 0, 9, 1, 5, 9), which(0, 4, 6, 5))

    def test_differing_where_they_overlap(self):
        self.wrong(which(0, 0, 5, 1, 4), which(0, 4, 9, 4, 5, 8))
        self.wrong(which(0, 0, 5, 1, 5), which(0, 4, 9, 4, 5, 8))
        self.wrong(which(0, 0, 9, 1, 5, 9), which(0, 4, 6))
        self.wrong(which(0, 0, 9, 1, 9), which(0, 4, 6, 5))

    def test_overlapping_in_one_number(self):
        self.right(which(0, 0, 5, 5), which(0, 5, 9, 5))
        self.right(which(0, 0, 5), which(0, 5, 9))
        self.wrong(which(0, 0, 5, 5), which(0, 5, 9))
        self.wrong(which(0, 0, 5), which(0, 5, 9, 5))

    def test_not_overlapping(self):
        self.right(which(0, 0, 4, 4), which(0, 5, 9))
        self.right(which(0, 0, 4), which(0, 6, 9, 6))

    def test_as_many_but_others(self):
        self.wrong(which(0, 0, 9, 3, 4), which(0, 1, 8, 3, 5))

    def test_other_areas_do_not_bear_on_it(self):
        self.right(which(0, 0, 5, 1), which(1, 0, 5, 2), which(2, 0, 4), job=2)
        self.wrong(which(0, 0, 5, 1), which(1, 0, 5, 2), which(0, 0, 4), job=2)

    def test_not_only_neighbours(self):
        self.wrong(which(0, 0, 5, 1), which(0, 20, 30), gone(0, 40), which(0, 1, 6))


if __name__ == "__main__":
    unittest.main()
