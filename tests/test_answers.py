import unittest

from foldsheets import desk
from tests.helper import (
    HIGHEST, ask, creep, facing, find, job, joined, judge, least, page, sheet_layout, side, sizes, slit, stack,
)

FIVE_FOLDS = [0, 2, 1, 3, 0]

ASKING = [
    sizes(), side(0, 0, 0, 0), side(0, 1, 1, 1), side(9, 0, 0, 0), page(1), page(0), page(20),
    stack(0, 1, 1), stack(1, 0, 1), stack(2, 0, 0), stack(3, 0, 0), stack(2, 1, 0), joined(), slit(),
    creep(3, HIGHEST), creep(128, 1), judge(0, 0, 0, [5, 12, 4, 13], [1, 1, 0, 0]),
    judge(0, 0, 1, [1, 2, 3, 4], [0] * 4), judge(0, 9, 0, [1], [0]), judge(0, 0, 0, [HIGHEST] * 9, []),
    find(2, *sheet_layout([2, 0])), find(1, [1, 2], [0, 0], [3, 4], [0, 0]), find(6, [], [], [], []),
    find(2, [], [], [], []), least(100), least(0), facing(1), facing(2), facing(0),
]


def in_a_row(calls):
    return [number for call in calls for number in call]


class Untouchable(list):
    """A list that can't be changed, not for a while either."""

    def refuse(self, *args, **kwargs):
        raise AssertionError("what is handed in was changed")

    append = extend = insert = pop = remove = clear = sort = reverse = refuse
    __setitem__ = __delitem__ = __iadd__ = __imul__ = refuse


class Form(unittest.TestCase):
    def test_counts_stand_ahead(self):
        calls = in_a_row([job([2, 0], 1, 8), sizes(), side(0, 0, 0, 0), page(3), stack(1, 1, 0), joined()])
        self.assertEqual(desk.answers(calls), [
            1, 0,
            6, 2, 2, 4, 8, 1, 0,
            9, 4, 3, 1, 6, 1, 2, 0, 7, 0,
            6, 0, 0, 0, 0, 0, 1,
            11, 2, 0, 1, 0, 0, 1, 0, 1, 1, 1, 0,
            13, 4, 0, 1, 2, 0, 3, 0, 1, 2, 0, 2, 3, 2,
        ])

    def test_a_refusal_is_its_number_alone(self):
        calls = in_a_row([sizes(), job([4], 1, 1), job([], 1, 1), side(1, 0, 0, 0), page(2), stack(1, 0, 0), joined()])
        self.assertEqual(desk.answers(calls), [1, -8, 1, -1, 1, 0, 1, -1, 1, -1, 1, -1, 1, 0])

    def test_counts_stand_ahead_of_the_other_calls_too(self):
        calls = in_a_row([
            job([2, 0], 1, 8), slit(), creep(1, 9), judge(0, 0, 0, [3, 6, 2, 7], [1, 1, 0, 0]),
            judge(0, 0, 0, [3, 6, 2, 8], [1, 1, 0, 0]), find(2, *sheet_layout([2, 0])), find(0, [1], [0], [2], [0]),
            find(0, [2], [0], [1], [0]), least(8), facing(2),
        ])
        self.assertEqual(desk.answers(calls), [
            1, 0,
            7, 2, 0, 1, 2, 2, 3, 2,
            1, 9,
            1, 0,
            2, 1, 3,
            3, 1, 2, 0,
            1, 1,
            1, 0,
            4, 0, 1, 1, 2,
            1, 3,
        ])

    def test_refusals_of_the_other_calls(self):
        calls = in_a_row([
            job([], 1, 1), creep(1, 1), judge(1, 0, 0, [], []), judge(0, 0, 0, [], []), find(6, [], [], [], []),
            find(0, [], [], [], []), least(0), facing(0), sizes(),
        ])
        self.assertEqual(desk.answers(calls),
                         [1, 0, 1, -1, 1, -1, 1, -3, 1, -1, 1, -3, 1, -1, 1, -1, 6, 1, 1, 1, 2, 1, 1])

    def test_whole_numbers_in_a_list(self):
        calls = in_a_row([sizes(), job([2, 0], 2, 8)] + ASKING)
        found = desk.answers(calls)
        self.assertIs(type(found), list)
        self.assertEqual({type(number) for number in found}, {int})

    def test_a_job_whose_numbers_look_like_calls(self):
        self.assertEqual(ask(job([2, 2], 2, 2), job([1, 2, 3, 0, 1, 2, 6], 1, 1), sizes()),
                         [[0], [-1], [1, 4, 8, 16, 1, 14]])

    def test_the_longest_list_of_numbers(self):
        calls = in_a_row([job([0], 1, 4), job([2] * 15000, 1, 1), sizes()])
        self.assertEqual(desk.answers(calls), [1, 0, 1, -1, 6, 2, 1, 2, 4, 1, 0])

    def test_a_refused_job_before_a_taken_one(self):
        found = ask(job([HIGHEST] * 10, HIGHEST, HIGHEST), sizes(), job([3], 1, 4), sizes())
        self.assertEqual(found, [[-1], [-8], [0], [1, 2, 2, 4, 1, 0]])


class ManyCalls(unittest.TestCase):
    def test_400_calls_answer_as_each_alone(self):
        jobs = [job([2, 0], 2, 16), job([], 1, 3), job([0, 1, 2, 3, 0], 4, 2000), job([3, 3], 3, 50)]
        calls, alone = [], []
        latest = []
        while len(calls) < 400:
            number = len(calls)
            if number % 20 == 5:
                latest = jobs[number // 20 % len(jobs)]
                calls.append(latest)
                alone.append([0])
            elif number % 20 == 15:
                calls.append(job([0] * number, 1, 1))
                alone.append([-1])
            else:
                calls.append(ASKING[number % len(ASKING)])
                alone.append(ask(*([latest] if latest else []), calls[-1])[-1])
        self.assertEqual(ask(*calls), alone)

    def test_400_of_the_largest(self):
        calls = [job([0, 2, 1, 3, 0], 4, 2000)] + [side(7, 3, 1, 1), stack(5, 0, 0), joined()] * 133
        found = ask(*calls)
        self.assertEqual(len(found), 400)
        self.assertEqual([answer[0] for answer in found[1:4]], [32, 128, 208])
        self.assertEqual(found[1:], found[1:4] * 133)

    def test_some_of_400_find_five_folds(self):
        search = find(5, *sheet_layout(FIVE_FOLDS))
        others = [job(FIVE_FOLDS, 1, 64), least(100), facing(2), slit()]
        calls = [search if number % 4 == 0 else others[number // 4 % 4] for number in range(400)]
        written = in_a_row(calls)
        self.assertLessEqual(len(written), 16000)
        found = ask(*calls)
        self.assertEqual(len(found), 400)
        self.assertEqual(found[::4], [[1] + FIVE_FOLDS] * 100)
        self.assertEqual(found[1:4] + found[5:8] + found[9:12], [[0]] * 3 + [[0, 25, 1, 1]] * 3 + [[3]] * 3)

    def test_all_calls_in_any_order(self):
        # Every call comes ahead of every other one, and none of them answers otherwise for it.
        alone = [ask(job([2, 0], 2, 17), call)[1] for call in ASKING]
        for first in range(len(ASKING)):
            turned = ASKING[first:] + ASKING[:first]
            self.assertEqual(ask(job([2, 0], 2, 17), *turned)[1:], alone[first:] + alone[:first])
            self.assertEqual(ask(job([2, 0], 2, 17), *turned[::-1])[1:], (alone[first:] + alone[:first])[::-1])

    def test_the_longest_list(self):
        calls = [job([0], 1, 4), judge(0, 0, 0, [2, 3], [0] * 7000), judge(0, 0, 0, [2] * 8000, [0, 0]),
                 judge(0, 0, 0, [2, 3], [0, 0])]
        left = 16000 - len(in_a_row(calls) + find(1, [2, 3], [], [], []) + sizes())
        calls.extend([find(1, [2, 3], [], [], [HIGHEST] * left), sizes()])
        self.assertEqual(len(in_a_row(calls)), 16000)
        self.assertEqual(desk.answers(in_a_row(calls)), [1, 0, 1, -3, 1, -3, 1, 0, 1, -3, 6, 2, 1, 2, 4, 1, 0])

    def test_one_call(self):
        self.assertEqual(desk.answers([2]), [1, -8])
        self.assertEqual(desk.answers([1, 1, 1, 0]), [1, 0])


class WhatOnlyAsks(unittest.TestCase):
    def test_asking_changes_nothing(self):
        for first in ASKING:
            plain = ask(job([2, 0], 2, 17), *ASKING)
            self.assertEqual(ask(job([2, 0], 2, 17), first, *ASKING)[2:], plain[1:], first)

    def test_asked_twice(self):
        for call in ASKING:
            found = ask(job([0, 3], 3, 33), call, call)
            self.assertEqual(found[1], found[2], call)

    def test_refused_jobs_change_nothing(self):
        plain = ask(job([0, 3], 3, 33), *ASKING)
        for wrong in (job([0] * 6, 1, 1), job([4], 1, 1), job([], 0, 1), job([], 5, 1), job([], 1, 0),
                      job([], 1, 2001)):
            self.assertEqual(ask(job([0, 3], 3, 33), wrong, *ASKING)[2:], plain[1:], wrong)


class WhatIsHandedIn(unittest.TestCase):
    def test_is_the_same_afterwards(self):
        calls = in_a_row([job([2, 0], 2, 17)] + ASKING + [job([9] * 50, 1, 1)])
        before = list(calls)
        desk.answers(calls)
        self.assertEqual(calls, before)

    def test_is_not_changed_for_a_while_either(self):
        calls = in_a_row([job([2, 0], 2, 17)] + ASKING + [job([9] * 50, 1, 1)])
        self.assertEqual(desk.answers(Untouchable(calls)), desk.answers(calls))

    def test_what_is_given_back_is_new(self):
        calls = in_a_row([job([2, 0], 2, 17)] + ASKING)
        first = desk.answers(calls)
        kept = list(first)
        first.clear()
        self.assertEqual(desk.answers(calls), kept)


class NothingIsKept(unittest.TestCase):
    def test_two_runs_answer_alike(self):
        calls = in_a_row([sizes(), job([2, 0], 2, 17)] + ASKING)
        self.assertEqual(desk.answers(calls), desk.answers(calls))

    def test_a_job_is_gone_with_its_list(self):
        self.assertEqual(ask(job([0], 1, 4), sizes())[1], [2, 1, 2, 4, 1, 0])
        self.assertEqual(ask(sizes()), [[-8]])

    def test_other_lists_between(self):
        calls = in_a_row([sizes(), job([1, 2], 2, 17)] + ASKING)
        first = desk.answers(calls)
        desk.answers(in_a_row([job([3, 3, 0], 4, 2000)] + ASKING))
        desk.answers(in_a_row([job([9], 1, 1), joined()]))
        self.assertEqual(desk.answers(calls), first)


if __name__ == "__main__":
    unittest.main()
