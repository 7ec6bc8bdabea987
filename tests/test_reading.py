import unittest

from foldsheets.reading import read_calls

# Each call as it stands in the list, with its whole numbers and its lists.
CALLS = [
    ([1, 2, 9, 3, 0, 1, 2], [2, 9], [[0, 1, 2]]),
    ([1, 2, 9, 0], [2, 9], [[]]),
    ([2], [], []),
    ([3, 4, 5, 6, 7], [4, 5, 6, 7], []),
    ([4, 8], [8], []),
    ([5, 1, 2, 3], [1, 2, 3], []),
    ([6], [], []),
    ([7], [], []),
    ([8, 3, 9], [3, 9], []),
    ([9, 1, 2, 3, 2, 10, 11, 1, 12], [1, 2, 3], [[10, 11], [12]]),
    ([9, 1, 2, 3, 0, 0], [1, 2, 3], [[], []]),
    ([10, 1, 2, 1, 4, 3, 0, 0, 1, 1, 3, 0], [1], [[1, 4], [0, 0, 1], [3], []]),
    ([11, 7], [7], []),
    ([12, 7], [7], []),
]


class Reading(unittest.TestCase):
    def test_each_call_alone(self):
        for written, numbers, lists in CALLS:
            found = read_calls(written)
            self.assertEqual([(call.number, call.numbers, call.lists) for call in found],
                             [(written[0], numbers, lists)])

    def test_one_behind_another(self):
        everything = [number for written, numbers, lists in CALLS for number in written]
        found = [(call.number, call.numbers, call.lists) for call in read_calls(everything)]
        self.assertEqual(found, [(written[0], numbers, lists) for written, numbers, lists in CALLS])


if __name__ == "__main__":
    unittest.main()
