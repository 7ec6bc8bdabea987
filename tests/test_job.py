import unittest

from tests.helper import HIGHEST, ask, job, sizes

TAKEN = [0]
REFUSED = [-1]


class TakenJobs(unittest.TestCase):
    def test_none_to_five_folds(self):
        for folds in ([], [0], [3, 1], [0, 1, 2], [3, 2, 1, 0], [0, 0, 0, 0, 0], [3, 3, 3, 3, 3], [1, 2, 1, 2, 1]):
            self.assertEqual(ask(job(folds, 1, 1)), [TAKEN], folds)

    def test_each_fold(self):
        for fold in range(4):
            self.assertEqual(ask(job([fold], 1, 1)), [TAKEN], fold)

    def test_one_to_four_sheets(self):
        for sheets in (1, 2, 3, 4):
            self.assertEqual(ask(job([0], sheets, 1)), [TAKEN], sheets)

    def test_one_to_two_thousand_pages(self):
        for pages in (1, 2, 1999, 2000):
            self.assertEqual(ask(job([0], 1, pages)), [TAKEN], pages)

    def test_all_at_their_edges(self):
        self.assertEqual(ask(job([3, 3, 3, 3, 3], 4, 2000), job([], 1, 1)), [TAKEN, TAKEN])


class RefusedJobs(unittest.TestCase):
    def test_more_than_five_folds(self):
        for folds in ([0] * 6, [1, 2, 3, 0, 1, 2], [0] * 7, [3] * 400, [0] * 15000):
            self.assertEqual(ask(job(folds, 1, 1)), [REFUSED], len(folds))

    def test_a_fold_above_three_at_each_place(self):
        for length in range(1, 6):
            for at in range(length):
                for wrong in (4, 5, 255, HIGHEST):
                    folds = [0] * length
                    folds[at] = wrong
                    self.assertEqual(ask(job(folds, 1, 1)), [REFUSED], folds)

    def test_a_long_list_of_high_numbers(self):
        self.assertEqual(ask(job([HIGHEST] * 15000, HIGHEST, HIGHEST)), [REFUSED])

    def test_sheets(self):
        for sheets in (0, 5, 6, 256, 2 ** 32 + 1, 2 ** 63, HIGHEST):
            self.assertEqual(ask(job([0], sheets, 1)), [REFUSED], sheets)

    def test_pages(self):
        for pages in (0, 2001, 2002, 2 ** 32 + 1, 2 ** 63, HIGHEST):
            self.assertEqual(ask(job([0], 1, pages)), [REFUSED], pages)

    def test_several_faults_are_one_refusal(self):
        self.assertEqual(ask(job([4, 0, 0, 0, 0, 0], 0, 0)), [REFUSED])


class WhichJobCounts(unittest.TestCase):
    def test_a_refused_job_leaves_none_where_there_was_none(self):
        self.assertEqual(ask(job([4], 1, 1), sizes()), [REFUSED, [-8]])

    def test_a_refused_job_leaves_the_one_before(self):
        before = [4, 1, 8, 16, 1, 6]
        for wrong in (job([0] * 6, 1, 5), job([0, 4], 1, 5), job([0], 0, 5), job([0], 5, 5), job([0], 1, 0),
                      job([0], 1, 2001), job([HIGHEST], HIGHEST, HIGHEST)):
            self.assertEqual(ask(job([0, 1], 2, 10), wrong, sizes()), [TAKEN, REFUSED, before], wrong)

    def test_a_later_job_takes_the_place(self):
        found = ask(job([0, 1], 2, 10), sizes(), job([2], 1, 9), sizes(), job([], 4, 8), sizes())
        self.assertEqual(found, [TAKEN, [4, 1, 8, 16, 1, 6], TAKEN, [1, 2, 2, 4, 3, 3], TAKEN, [1, 1, 4, 8, 1, 0]])


if __name__ == "__main__":
    unittest.main()
