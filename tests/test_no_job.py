import unittest

from tests.helper import HIGHEST, ask, job, joined, page, side, sizes, stack

NO_JOB = [-8]


class WithoutJob(unittest.TestCase):
    def test_right_numbers(self):
        for call in (sizes(), side(0, 0, 0, 0), page(1), stack(0, 0, 0), joined()):
            self.assertEqual(ask(call), [NO_JOB], call)

    def test_before_every_other_refusal(self):
        wrong = (
            side(HIGHEST, 0, 0, 0), side(0, HIGHEST, 0, 0), side(0, 0, 2, 0), side(0, 0, 0, 2),
            page(0), page(HIGHEST),
            stack(HIGHEST, 0, 0), stack(0, HIGHEST, 0), stack(0, 0, HIGHEST),
        )
        for call in wrong:
            self.assertEqual(ask(call), [NO_JOB], call)

    def test_one_after_another_and_then_a_job(self):
        found = ask(sizes(), side(0, 0, 0, 0), page(1), stack(0, 0, 0), joined(), job([], 1, 1), sizes())
        self.assertEqual(found, [NO_JOB] * 5 + [[0], [1, 1, 1, 2, 1, 1]])

    def test_still_so_behind_a_refused_job(self):
        found = ask(job([0], 5, 1), sizes(), side(0, 0, 0, 0), page(1), stack(0, 0, 0), joined())
        self.assertEqual(found, [[-1]] + [NO_JOB] * 5)

    def test_the_later_calls_too_and_what_stands_behind_them(self):
        later = ([7], [8, 0, HIGHEST], [9, 0, 0, 0, 2, 6, 1, 3, 1, 0, 1], [9, 1, 2, 3, 0, 0], [12, 1], [12, 0])
        for call in later:
            self.assertEqual(ask(call, sizes(), job([], 1, 1)), [NO_JOB, NO_JOB, [0]], call)


if __name__ == "__main__":
    unittest.main()
