import copy
import unittest

from hirefair.errors import NoHand, NoTable, NoTask
from hirefair.table import raised, recosted
from oracle import BEYOND, GREAT


def three_hands():
    return [[4, None, -1], [0, 12, 7], [None, None, 5]]


class Recosted(unittest.TestCase):
    def test_an_ordinary_place(self):
        self.assertEqual(recosted(3, three_hands(), 1, 2, 9), [[4, None, -1], [0, 12, 9], [None, None, 5]])

    def test_every_place_and_many_costs(self):
        for hand in range(3):
            for task in range(3):
                for cost in (None, 0, 1, -1, -8, GREAT, -GREAT, BEYOND, -BEYOND):
                    with self.subTest(hand=hand, task=task, cost=cost):
                        expected = three_hands()
                        expected[hand][task] = cost
                        self.assertEqual(recosted(3, three_hands(), hand, task, cost), expected)

    def test_to_none_and_from_none(self):
        self.assertEqual(recosted(3, three_hands(), 0, 0, None)[0], [None, None, -1])
        self.assertEqual(recosted(3, three_hands(), 0, 1, 0)[0], [4, 0, -1])
        self.assertEqual(recosted(3, three_hands(), 2, 1, None), three_hands())

    def test_no_such_hand(self):
        for hand in (-1, -3, 3, 4, GREAT, -GREAT):
            with self.subTest(hand=hand), self.assertRaises(NoHand):
                recosted(3, three_hands(), hand, 0, 1)

    def test_no_such_task(self):
        for task in (-1, -3, 3, 4, GREAT, -GREAT):
            with self.subTest(task=task), self.assertRaises(NoTask):
                recosted(3, three_hands(), 0, task, 1)

    def test_the_hand_is_asked_ahead_of_the_task(self):
        for hand in (-1, 3):
            for task in (-1, 3):
                with self.subTest(hand=hand, task=task), self.assertRaises(NoHand):
                    recosted(3, three_hands(), hand, task, 1)

    def test_no_hands_and_no_tasks(self):
        for many in (0, 2):
            with self.subTest(many=many), self.assertRaises(NoHand):
                recosted(many, [], 0, 0, 1)
        with self.assertRaises(NoTask):
            recosted(0, [[], []], 1, 0, 1)


class Raised(unittest.TestCase):
    def test_an_ordinary_hand(self):
        self.assertEqual(raised(3, three_hands(), 1, 5), [[4, None, -1], [5, 17, 12], [None, None, 5]])

    def test_below_nought_and_nought(self):
        self.assertEqual(raised(3, three_hands(), 1, -5), [[4, None, -1], [-5, 7, 2], [None, None, 5]])
        self.assertEqual(raised(3, three_hands(), 1, 0), three_hands())

    def test_none_stays_none(self):
        self.assertEqual(raised(3, three_hands(), 0, 1)[0], [5, None, 0])
        self.assertEqual(raised(2, [[None, None]], 0, -7), [[None, None]])

    def test_great_numbers(self):
        self.assertEqual(raised(2, [[GREAT, -GREAT]], 0, GREAT), [[2 * GREAT, 0]])
        self.assertEqual(raised(2, [[GREAT, 1]], 0, -BEYOND), [[GREAT - BEYOND, 1 - BEYOND]])

    def test_no_such_hand(self):
        for hand in (-1, -3, 3, 4, GREAT, -GREAT):
            with self.subTest(hand=hand), self.assertRaises(NoHand):
                raised(3, three_hands(), hand, 1)
        with self.assertRaises(NoHand):
            raised(0, [], 0, 1)

    def test_no_tasks(self):
        self.assertEqual(raised(0, [[], []], 1, 3), [[], []])


class BothChanges(unittest.TestCase):
    def changes(self, many, rows, hand=0, task=0):
        return (
            ("recosted", lambda: recosted(many, rows, hand, task, 8)),
            ("raised", lambda: raised(many, rows, hand, 8)),
        )

    def test_no_table(self):
        tables = ((2, [[1, 2], [3]]), (2, [[1, 2, 3], [4, 5]]), (2, [[1, 2], []]), (0, [[], [1]]), (1, [[], []]))
        for many, rows in tables:
            for name, change in self.changes(many, rows):
                with self.subTest(change=name, many=many, rows=rows), self.assertRaises(NoTable):
                    change()

    def test_no_table_ahead_of_all_else(self):
        for hand, task in ((-1, 0), (2, 0), (0, -1), (0, 2), (5, 5)):
            for name, change in self.changes(2, [[1, 2], [3]], hand, task):
                with self.subTest(change=name, hand=hand, task=task), self.assertRaises(NoTable):
                    change()

    def test_what_is_handed_in_stays_as_it_was(self):
        rows = three_hands()
        for name, change in self.changes(3, rows, 1, 2):
            with self.subTest(change=name):
                change()
                self.assertEqual(rows, three_hands())

    def test_the_answer_shares_nothing_with_what_was_handed_in(self):
        rows = three_hands()
        for name, change in self.changes(3, rows, 1, 2):
            with self.subTest(change=name):
                answer = change()
                for row in answer:
                    row[0] = 77
                    row.append(78)
                answer.append([79])
                self.assertEqual(rows, three_hands())

    def test_a_later_change_of_the_rows_leaves_the_answer(self):
        for place in (0, 1):
            rows = three_hands()
            name, change = self.changes(3, rows, 1, 2)[place]
            with self.subTest(change=name):
                answer = change()
                told = copy.deepcopy(answer)
                for row in rows:
                    row[0] = 77
                rows.append([79])
                self.assertEqual(answer, told)

    def test_hands_that_were_handed_in_as_one_list_are_still_two_hands(self):
        row = [1, 2]
        self.assertEqual(recosted(2, [row, row], 1, 0, 8), [[1, 2], [8, 2]])
        self.assertEqual(raised(2, [row, row], 0, 8), [[9, 10], [1, 2]])
        answer = recosted(2, [row, row, row], 2, 0, 8)
        answer[0][0] = 77
        self.assertEqual(answer, [[77, 2], [1, 2], [8, 2]])


if __name__ == "__main__":
    unittest.main()
