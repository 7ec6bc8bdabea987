import unittest

from tests.helper import (
    HIGHEST, ask, creep, facing, find, job, joined, judge, least, page, side, sizes, slit, stack,
)

NO_JOB = [-8]


class WithoutJob(unittest.TestCase):
    def test_right_numbers(self):
        for call in (sizes(), side(0, 0, 0, 0), page(1), stack(0, 0, 0), joined(), slit(), creep(0, 1),
                     judge(0, 0, 0, [1], [0]), facing(1)):
            self.assertEqual(ask(call), [NO_JOB], call)

    def test_before_every_other_refusal(self):
        wrong = (
            side(HIGHEST, 0, 0, 0), side(0, HIGHEST, 0, 0), side(0, 0, 2, 0), side(0, 0, 0, 2),
            page(0), page(HIGHEST),
            stack(HIGHEST, 0, 0), stack(0, HIGHEST, 0), stack(0, 0, HIGHEST),
            creep(128, 0), creep(HIGHEST, HIGHEST),
            judge(HIGHEST, 0, 0, [1], [0]), judge(0, 4, 0, [1], [0]), judge(0, 0, 2, [1], [0]), judge(0, 0, 0, [], []),
            judge(0, 0, 0, [1], [2]), judge(0, 0, 0, [1], [0] * 15000), judge(HIGHEST, HIGHEST, HIGHEST, [2], [2, 2]),
            facing(0), facing(2001), facing(HIGHEST),
        )
        for call in wrong:
            self.assertEqual(ask(call), [NO_JOB], call)

    def test_one_after_another_and_then_a_job(self):
        asking = [sizes(), side(0, 0, 0, 0), page(1), stack(0, 0, 0), joined(), slit(), creep(0, 1),
                  judge(0, 0, 0, [1], [0]), facing(1)]
        found = ask(*asking, job([], 1, 1), *asking)
        self.assertEqual(found, [NO_JOB] * 9 + [
            [0], [1, 1, 1, 2, 1, 1], [1, 1, 0], [0, 0, 0, 0, 0, 0], [1, 0, 0, 0, 1, 0], [0], [0], [0], [0], [0],
        ])

    def test_still_so_behind_a_refused_job(self):
        found = ask(job([0], 5, 1), sizes(), side(0, 0, 0, 0), page(1), stack(0, 0, 0), joined(), slit(), creep(0, 1),
                    judge(0, 0, 0, [1], [0]), facing(1))
        self.assertEqual(found, [[-1]] + [NO_JOB] * 9)

    def test_find_and_least_need_none(self):
        found = ask(find(0, [1], [0], [2], [0]), least(1), sizes(), find(6, [], [], [], []), find(0, [], [], [], []),
                    least(0), slit())
        self.assertEqual(found, [[1], [1, 1, 1, 0], NO_JOB, [-1], [-3], [-1], NO_JOB])


if __name__ == "__main__":
    unittest.main()
