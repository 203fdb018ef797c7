import copy
import random
import unittest

from hirefair.dealing import dealt, least_total, redealt
from hirefair.errors import NoHand, NoTable, NoTask
from hirefair.showing import shows_least, shows_short, total
from oracle import (
    BEYOND, GREAT, NOT_TABLES, cost_of, fits, least_cost, least_is_shown, made_up_row, made_up_tables, small_tables,
)

# Hands 0 and 1 both like task 0 best; hand 1 would lose the more without it.
ROWS = [[1, 2, None], [1, 5, 9]]
TASKS = [1, 0]
PRICES = [1, 0, 0]


def hundred(cost, hands=100, many=100):
    return many, [[cost(hand, task) for task in range(many)] for hand in range(hands)]


def large_tables():
    chance = random.Random(5)
    yield hundred(lambda hand, task: chance.randint(-GREAT, GREAT))
    yield hundred(lambda hand, task: (hand + 1) * (task + 1) * 10 ** 96)
    yield hundred(lambda hand, task: -(hand + 1) * (task + 1) * 10 ** 96)
    yield hundred(lambda hand, task: (100 - hand) * (task + 1))
    yield hundred(lambda hand, task: task)
    yield hundred(lambda hand, task: 7)
    yield hundred(lambda hand, task: 0 if task <= hand else None)
    # Each hand that comes later pushes all the former ones on by one task.
    yield hundred(lambda hand, task: task if task <= hand else None)
    yield hundred(lambda hand, task: -GREAT if task - hand in (0, 1) else None)
    yield hundred(lambda hand, task: hand * task if task < 99 else None)
    yield hundred(lambda hand, task: None)
    yield hundred(lambda hand, task: chance.randint(-3, 3), hands=40)
    yield hundred(lambda hand, task: chance.choice((None, chance.randint(-BEYOND, BEYOND))), hands=99)
    yield hundred(lambda hand, task: chance.randint(0, 9), hands=101)
    yield hundred(lambda hand, task: chance.randint(-BEYOND, BEYOND), hands=104, many=107)


class Dealt(unittest.TestCase):
    def check(self, many, rows):
        answer = dealt(many, rows)
        self.assertTrue(fits(many, rows, answer), (many, rows, answer))
        if answer[0] == "dealt":
            self.assertIs(shows_least(many, rows, answer[1], answer[2]), True)
        else:
            self.assertIs(shows_short(many, rows, answer[1], answer[2]), True)
        return answer

    def check_by_all_dealings(self, many, rows):
        answer = self.check(many, rows)
        least = least_cost(many, rows)
        self.assertEqual(answer[0], "short" if least is None else "dealt", (many, rows))
        if least is not None:
            self.assertEqual(cost_of(rows, answer[1]), least, (many, rows))

    def test_where_just_one_dealing_costs_the_least(self):
        self.assertEqual(dealt(3, ROWS)[:2], ("dealt", TASKS))
        self.assertEqual(dealt(3, [[4, None, -1], [0, 12, 7]])[:2], ("dealt", [2, 0]))

    def test_where_just_one_shortage_may_be_told(self):
        self.assertEqual(dealt(1, [[5], [6]]), ("short", [0, 1], [0]))
        self.assertEqual(dealt(3, [[1, 1, 1], [None, 4, None], [None, 0, None]]), ("short", [1, 2], [1]))

    def test_no_hands(self):
        self.assertEqual(dealt(0, []), ("dealt", [], []))
        self.assertEqual(dealt(3, []), ("dealt", [], [0, 0, 0]))

    def test_no_tasks(self):
        self.assertEqual(dealt(0, [[]]), ("short", [0], []))
        self.check_by_all_dealings(0, [[], [], []])

    def test_more_hands_than_tasks(self):
        self.check_by_all_dealings(1, [[0], [None], [-4]])
        self.check_by_all_dealings(2, [[1, 2], [3, 4], [5, 6]])
        self.check_by_all_dealings(2, [[1, None], [3, None], [5, None]])

    def test_a_hand_that_cant_do_any_task(self):
        self.assertEqual(dealt(2, [[None, None]]), ("short", [0], []))
        self.check_by_all_dealings(3, [[1, 2, 3], [None, None, None], [3, 2, 1]])

    def test_costs_below_nought(self):
        self.assertEqual(dealt(3, [[4, -9, -1]])[1], [1])
        self.check_by_all_dealings(3, [[-5, -6, -7], [-5, -6, -9]])

    def test_great_numbers(self):
        self.assertEqual(dealt(2, [[GREAT, GREAT - 1], [GREAT, GREAT]])[1], [1, 0])
        self.assertEqual(dealt(2, [[-BEYOND, -BEYOND], [1 - BEYOND, -BEYOND]])[1], [0, 1])
        self.check_by_all_dealings(3, [[GREAT, -BEYOND, None], [0, -BEYOND, 1], [None, -BEYOND, GREAT]])

    def test_all_small_tables(self):
        for many, rows in small_tables((None, -1, 2), 3, 3):
            self.check_by_all_dealings(many, rows)

    def test_all_tables_of_four_hands_and_what_they_can_do(self):
        for many, rows in small_tables((None, 0), 4, 3):
            self.check_by_all_dealings(many, rows)

    def test_made_up_tables(self):
        for many, rows in made_up_tables(1, 2000):
            self.check_by_all_dealings(many, rows)

    def test_large_tables(self):
        told = [self.check(many, rows)[0] for many, rows in large_tables()]
        self.assertEqual(told, ["dealt"] * 9 + ["short"] * 2 + ["dealt"] * 2 + ["short"] + ["dealt"])


class LeastTotal(unittest.TestCase):
    def check(self, many, rows):
        self.assertEqual(least_total(many, rows), least_cost(many, rows), (many, rows))

    def test_ordinary_ones(self):
        self.assertEqual(least_total(3, ROWS), 3)
        self.assertEqual(least_total(3, [[4, None, -1], [0, 12, 7]]), -1)
        self.assertEqual(least_total(2, [[-GREAT, 0], [-GREAT, 1]]), -GREAT)

    def test_no_hands(self):
        self.assertEqual(least_total(0, []), 0)
        self.assertEqual(least_total(4, []), 0)

    def test_none_just_where_there_is_no_dealing(self):
        self.assertIsNone(least_total(0, [[]]))
        self.assertIsNone(least_total(1, [[5], [6]]))
        self.assertIsNone(least_total(2, [[None, None]]))
        self.assertEqual(least_total(2, [[0, None], [None, 0]]), 0)

    def test_all_small_tables(self):
        for many, rows in small_tables((None, -1, 2), 3, 3):
            self.check(many, rows)

    def test_made_up_tables(self):
        for many, rows in made_up_tables(2, 1000):
            self.check(many, rows)

    def test_large_ones(self):
        self.assertEqual(least_total(*hundred(lambda hand, task: (hand + 1) * (task + 1))), 171700)
        self.assertEqual(least_total(*hundred(lambda hand, task: -BEYOND)), -100 * BEYOND)
        self.assertIsNone(least_total(*hundred(lambda hand, task: task if task < 99 else None)))


class Redealt(unittest.TestCase):
    def redealt(self, hand, task, cost):
        return redealt(3, ROWS, TASKS, PRICES, hand, task, cost)

    def check_anew(self, hand, task, cost, told):
        rows = copy.deepcopy(ROWS)
        rows[hand][task] = cost
        answer = self.redealt(hand, task, cost)
        self.assertEqual(answer[0], told)
        self.assertTrue(fits(3, rows, answer), answer)
        return answer

    def test_kept_where_the_prices_still_show_it(self):
        for hand, task, cost in ((0, 1, 1), (0, 1, -GREAT), (0, 0, 9), (1, 0, 0), (1, 2, 3), (1, 1, BEYOND)):
            with self.subTest(hand=hand, task=task, cost=cost):
                self.assertEqual(self.redealt(hand, task, cost), ("kept", TASKS, PRICES))

    def test_just_what_content_asks_and_one_less(self):
        for hand, task, cost in ((0, 0, 1), (0, 2, 2), (1, 1, 2), (1, 2, 2)):
            with self.subTest(hand=hand, task=task, cost=cost):
                self.assertEqual(self.redealt(hand, task, cost), ("kept", TASKS, PRICES))
                self.check_anew(hand, task, cost - 1, "dealt")

    def test_an_own_task_just_as_dear_as_content_allows_and_one_more(self):
        for hand, task, cost in ((0, 1, 2), (1, 0, 4)):
            with self.subTest(hand=hand, task=task, cost=cost):
                self.assertEqual(self.redealt(hand, task, cost), ("kept", TASKS, PRICES))
                self.check_anew(hand, task, cost + 1, "dealt")

    def test_anew_though_the_dealing_still_costs_the_least(self):
        answer = redealt(2, [[1, 2], [1, 5]], [1, 0], [1, 0], 0, 1, 4)
        self.assertEqual(answer[:2], ("dealt", [1, 0]))
        self.assertTrue(fits(2, [[1, 4], [1, 5]], answer), answer)

    def test_to_none(self):
        self.assertEqual(self.redealt(0, 0, None), ("kept", TASKS, PRICES))
        self.assertEqual(self.redealt(1, 2, None), ("kept", TASKS, PRICES))
        self.check_anew(0, 1, None, "dealt")
        self.check_anew(1, 0, None, "dealt")
        self.assertEqual(redealt(2, [[3, None]], [0], [0, 0], 0, 0, None), ("short", [0], []))
        self.assertEqual(redealt(2, [[3, 4], [5, None]], [1, 0], [1, 0], 0, 1, None), ("short", [0, 1], [0]))

    def test_from_none(self):
        self.assertEqual(self.redealt(0, 2, 5), ("kept", TASKS, PRICES))
        self.check_anew(0, 2, -5, "dealt")

    def test_to_what_it_is_already(self):
        for hand in range(2):
            for task in range(3):
                self.assertEqual(self.redealt(hand, task, ROWS[hand][task]), ("kept", TASKS, PRICES))

    def test_every_change_of_every_small_table(self):
        seen = set()
        for many, rows in small_tables((None, 0, 2)):
            told, tasks, prices = dealt(many, rows)
            for hand in range(len(rows) if told == "dealt" else 0):
                for task in range(many):
                    for cost in (None, -1, 0, 1, 2, 3):
                        seen.add(self.check_change(many, rows, tasks, prices, hand, task, cost))
        self.assertEqual(seen, {"kept", "dealt", "short"})

    def test_changes_of_made_up_tables(self):
        chance = random.Random(3)
        for many, rows in made_up_tables(3, 1500):
            told, tasks, prices = dealt(many, rows)
            if told == "dealt" and rows:
                hand, task = chance.randrange(len(rows)), chance.randrange(many)
                # Just about where the prices stop showing it.
                edge = rows[hand][tasks[hand]] + prices[tasks[hand]] - prices[task]
                for cost in (None, edge - 1, edge, edge + 1, -BEYOND, BEYOND):
                    self.check_change(many, rows, tasks, prices, hand, task, cost)

    def check_change(self, many, rows, tasks, prices, hand, task, cost):
        changed = copy.deepcopy(rows)
        changed[hand][task] = cost
        answer = redealt(many, rows, tasks, prices, hand, task, cost)
        if least_is_shown(many, changed, tasks, prices):
            self.assertEqual(answer, ("kept", tasks, prices))
        else:
            self.assertTrue(fits(many, changed, answer), (many, changed, answer))
        return answer[0]

    def test_no_such_hand(self):
        for hand in (-1, -2, 2, 3, GREAT):
            with self.subTest(hand=hand), self.assertRaises(NoHand):
                self.redealt(hand, 0, 1)
        with self.assertRaises(NoHand):
            redealt(1, [], [], [0], 0, 0, 1)

    def test_no_such_task(self):
        for task in (-1, -3, 3, 4, GREAT):
            with self.subTest(task=task), self.assertRaises(NoTask):
                self.redealt(0, task, 1)

    def test_the_hand_is_asked_ahead_of_the_task(self):
        for hand in (-1, 2):
            for task in (-1, 3):
                with self.subTest(hand=hand, task=task), self.assertRaises(NoHand):
                    self.redealt(hand, task, 1)

    def test_a_large_table(self):
        many, rows = hundred(lambda hand, task: (hand + 1) * (task + 1) * 10 ** 96)
        told, tasks, prices = dealt(many, rows)
        self.assertEqual(redealt(many, rows, tasks, prices, 50, 60, GREAT * 100), ("kept", tasks, prices))
        self.check_change(many, rows, tasks, prices, 50, 60, -GREAT)
        self.check_change(many, rows, tasks, prices, 50, tasks[50], None)


class AllOfThem(unittest.TestCase):
    def test_no_table_ahead_of_all_else(self):
        for many, rows in NOT_TABLES:
            with self.subTest(many=many, rows=rows):
                with self.assertRaises(NoTable):
                    dealt(many, rows)
                with self.assertRaises(NoTable):
                    least_total(many, rows)
                for hand, task in ((0, 0), (-1, 0), (9, 0), (0, -1), (0, 9), (9, 9)):
                    with self.assertRaises(NoTable):
                        redealt(many, rows, [0, 1], [0] * many, hand, task, 1)

    def calls(self):
        yield dealt, (3, copy.deepcopy(ROWS))
        yield dealt, (1, [[5], [6]])
        yield least_total, (3, copy.deepcopy(ROWS))
        yield least_total, (1, [[5], [6]])
        yield redealt, (3, copy.deepcopy(ROWS), list(TASKS), list(PRICES), 1, 0, 2)
        yield redealt, (3, copy.deepcopy(ROWS), list(TASKS), list(PRICES), 1, 0, 20)
        yield redealt, (3, copy.deepcopy(ROWS), list(TASKS), list(PRICES), 0, 1, None)

    def test_nothing_that_is_handed_in_is_changed(self):
        for function, handed in self.calls():
            kept = copy.deepcopy(handed)
            with self.subTest(function.__name__, handed=kept):
                function(*handed)
                self.assertEqual(handed, kept)
        for many, rows in made_up_tables(4, 200):
            kept = copy.deepcopy(rows)
            least_total(many, rows)
            self.assertEqual(rows, kept)

    def test_an_answer_stays_and_shares_nothing_with_what_was_handed_in(self):
        for function, handed in self.calls():
            with self.subTest(function.__name__, handed=handed):
                answer = function(*handed)
                told = copy.deepcopy(answer)
                for part in handed:
                    if isinstance(part, list):
                        part.append(77)
                self.assertEqual(answer, told)

    def test_changing_an_answer_changes_no_later_one(self):
        for function, handed in self.calls():
            if function is not least_total:
                kept = copy.deepcopy(handed)
                with self.subTest(function.__name__, handed=kept):
                    answer = function(*handed)
                    told = copy.deepcopy(answer)
                    answer[1].append(77)
                    answer[2].append(78)
                    self.assertEqual(handed, kept)
                    self.assertEqual(function(*handed), told)

    def test_hands_that_were_handed_in_as_one_list_are_still_two_hands(self):
        row = [1, 2]
        self.assertEqual(least_total(2, [row, row]), 3)
        answer = redealt(2, [row, row], [0, 1], [1, 0], 0, 0, 9)
        self.assertTrue(fits(2, [[9, 2], [1, 2]], answer), answer)

    def test_they_agree_with_one_another(self):
        chance = random.Random(6)
        for time in range(20):
            rows = [made_up_row(chance, 30, chance.choice((3, GREAT)), 0.3) for hand in range(25)]
            told, tasks, prices = dealt(30, rows)
            self.assertEqual(told, "dealt")
            self.assertEqual(least_total(30, rows), total(30, rows, tasks))


if __name__ == "__main__":
    unittest.main()
