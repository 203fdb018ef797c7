import copy
import itertools
import unittest

from hirefair.errors import NoDealing, NoPrices, NoTable
from hirefair.showing import bound, shows_least, shows_short, total
from oracle import BEYOND, GREAT, all_dealings, cost_of, small_tables

# Hands 0 and 1 both like task 0 best; hand 1 would lose the more without it.
ROWS = [[1, 2, None], [1, 5, 9]]
TASKS = [1, 0]
PRICES = [1, 0, 0]

# Hands 0, 2 and 3 have only the tasks 1 and 2 among them.
SHORT = [[None, 3, None, None], [1, 1, 1, 1], [None, 4, 5, None], [None, None, 0, None]]


class Total(unittest.TestCase):
    def test_ordinary_dealings(self):
        self.assertEqual(total(3, ROWS, [1, 0]), 3)
        self.assertEqual(total(3, ROWS, [0, 2]), 10)
        self.assertEqual(total(3, [[4, None, -1], [0, 12, 7]], [2, 0]), -1)
        self.assertEqual(total(1, [[0]], [0]), 0)

    def test_great_numbers(self):
        self.assertEqual(total(2, [[GREAT, 0], [0, GREAT]], [0, 1]), 2 * GREAT)
        self.assertEqual(total(2, [[-BEYOND, 0], [0, 1]], [0, 1]), 1 - BEYOND)

    def test_without_hands_the_empty_list_costs_nought(self):
        self.assertEqual(total(0, [], []), 0)
        self.assertEqual(total(3, [], []), 0)

    def test_no_dealing(self):
        wrong = {
            "a task twice": [1, 1],
            "a task that the hand can't do": [2, 0],
            "a task below nought": [-1, 0],
            "a task below nought that would be a fit one from the row's end": [0, -2],
            "a task as many as there are": [0, 3],
            "a task far beyond": [0, GREAT],
            "too long": [1, 0, 2],
            "too short": [1],
            "empty": [],
        }
        for name, tasks in wrong.items():
            with self.subTest(name), self.assertRaises(NoDealing):
                total(3, ROWS, tasks)

    def test_no_dealing_at_the_edges(self):
        for many, rows, tasks in ((0, [], [0]), (2, [], [0]), (0, [[]], []), (0, [[]], [0]), (1, [[1], [1]], [0, 0])):
            with self.subTest(many=many, rows=rows, tasks=tasks), self.assertRaises(NoDealing):
                total(many, rows, tasks)

    def test_every_small_one(self):
        for many, rows in small_tables((None, 2, 5)):
            dealings = list(all_dealings(many, rows))
            for count in range(4):
                for tasks in itertools.product(range(-1, many + 1), repeat=count):
                    if list(tasks) in dealings:
                        self.assertEqual(total(many, rows, list(tasks)), cost_of(rows, tasks))
                    else:
                        with self.assertRaises(NoDealing):
                            total(many, rows, list(tasks))


class ShowsLeast(unittest.TestCase):
    def test_prices_that_show_it(self):
        self.assertIs(shows_least(3, ROWS, TASKS, PRICES), True)
        self.assertIs(shows_least(3, ROWS, TASKS, [3, 0, 0]), True)
        self.assertIs(shows_least(2, [[-3, 4], [-3, -1]], [0, 1], [2, 0]), True)
        self.assertIs(shows_least(2, [[5, 5], [5, 5]], [1, 0], [7, 7]), True)

    def test_each_way_in_which_it_fails(self):
        wrong = {
            "a task twice": ([1, 1], PRICES),
            "a task that the hand can't do": ([2, 0], PRICES),
            "a task below nought": ([-2, 0], PRICES),
            "a task as many as there are": ([1, 3], PRICES),
            "too few tasks": ([1], PRICES),
            "too many tasks": ([1, 0, 2], PRICES),
            "a price too many": (TASKS, [1, 0, 0, 0]),
            "a price too few": (TASKS, [1, 0]),
            "no price": (TASKS, []),
            "a price below nought": (TASKS, [0, -1, 0]),
            "a price below nought on a task that is left over": (TASKS, [1, 0, -1]),
            "a price for a task that goes to no hand": (TASKS, [1, 0, 1]),
            "hand 0 is not content": (TASKS, [0, 0, 0]),
            "hand 1 is not content": (TASKS, [5, 0, 0]),
            "a dealing that is not the least": ([0, 1], [0, 0, 0]),
        }
        for name, (tasks, prices) in wrong.items():
            with self.subTest(name):
                self.assertIs(shows_least(3, ROWS, tasks, prices), False)

    def test_all_prices_below_nought_are_no_prices(self):
        self.assertIs(shows_least(2, [[5, 5], [5, 5]], [1, 0], [-1, -1]), False)

    def test_what_a_hand_cant_do_never_lures_it(self):
        self.assertIs(shows_least(2, [[None, 8], [3, None]], [1, 0], [0, 0]), True)

    def test_no_hands(self):
        self.assertIs(shows_least(0, [], [], []), True)
        self.assertIs(shows_least(2, [], [], [0, 0]), True)
        self.assertIs(shows_least(2, [], [], [0, 1]), False)
        self.assertIs(shows_least(2, [], [], []), False)
        self.assertIs(shows_least(2, [], [0], [0, 0]), False)

    def test_no_tasks(self):
        self.assertIs(shows_least(0, [], [], [0]), False)
        for tasks in ([], [0], [-1]):
            with self.subTest(tasks=tasks):
                self.assertIs(shows_least(0, [[]], tasks, []), False)

    def test_great_numbers(self):
        rows = [[-GREAT, GREAT], [-GREAT, BEYOND]]
        self.assertIs(shows_least(2, rows, [1, 0], [2 * GREAT, 0]), True)
        self.assertIs(shows_least(2, rows, [1, 0], [2 * GREAT - 1, 0]), False)
        self.assertIs(shows_least(2, rows, [1, 0], [GREAT + BEYOND, 0]), True)
        self.assertIs(shows_least(2, rows, [1, 0], [GREAT + BEYOND + 1, 0]), False)

    def test_every_small_one(self):
        for many, rows in small_tables((None, -1, 0, 1)):
            dealings = list(all_dealings(many, rows))
            least = min([cost_of(rows, tasks) for tasks in dealings], default=None)
            shown = []
            for prices in itertools.product((-1, 0, 1, 2), repeat=many):
                for tasks in itertools.product(range(-1, many + 1), repeat=len(rows)):
                    if shows_least(many, rows, list(tasks), list(prices)):
                        self.assertIn(list(tasks), dealings)
                        self.assertEqual(cost_of(rows, tasks), least)
                        self.assertGreaterEqual(min(prices, default=0), 0)
                        self.assertEqual(bound(many, rows, list(prices)), least)
                        shown.append(list(tasks))
            cheap = [tasks for tasks in dealings if cost_of(rows, tasks) == least]
            self.assertEqual([tasks for tasks in cheap if tasks not in shown], [], (many, rows))


class ShowsShort(unittest.TestCase):
    def test_hands_and_tasks_that_show_it(self):
        self.assertIs(shows_short(4, SHORT, [0, 2, 3], [1, 2]), True)
        self.assertIs(shows_short(1, [[5], [-6]], [0, 1], [0]), True)
        self.assertIs(shows_short(2, [[1, 1], [None, None]], [1], []), True)

    def test_each_way_in_which_it_fails(self):
        wrong = {
            "hands that don't rise": ([2, 0, 3], [1, 2]),
            "tasks that don't rise": ([0, 2, 3], [2, 1]),
            "a hand twice": ([0, 2, 2, 3], [1, 2]),
            "a hand twice to make them more": ([0, 0], [1]),
            "a task twice": ([0, 2, 3], [1, 1]),
            "a hand below nought": ([-1, 0, 2], [1, 2]),
            "a hand as many as there are": ([0, 2, 3, 4], [1, 2]),
            "a task below nought": ([0, 2, 3], [-1, 1, 2]),
            "a task below nought among few": ([0, 2, 3], [-2, 1]),
            "a task as many as there are": ([0, 3], [4]),
            "a task of theirs that is not told": ([0, 2, 3], [1]),
            "as many tasks as hands": ([0, 2], [1, 2]),
            "more tasks than hands": ([0, 2, 3], [0, 1, 2, 3]),
            "as many, with one that none of them can do": ([0, 2, 3], [1, 2, 3]),
            "both lists empty": ([], []),
            "no hands": ([], [1, 2]),
            "no tasks": ([0, 2, 3], []),
        }
        for name, (hands, tasks) in wrong.items():
            with self.subTest(name):
                self.assertIs(shows_short(4, SHORT, hands, tasks), False)

    def test_a_number_that_is_no_hand_or_no_task_though_all_else_fits(self):
        rows = [[None, None], [None, None], [None, None]]
        for hands, tasks in (([-1, 0], []), ([2, 3], []), ([GREAT], []), ([0, 1], [-1]), ([0, 1], [2])):
            with self.subTest(hands=hands, tasks=tasks):
                self.assertIs(shows_short(2, rows, hands, tasks), False)
        for hands, tasks in (([1, 0], []), ([0, 0], []), ([0, 1, 2], [1, 0]), ([0, 1, 2], [1, 1])):
            with self.subTest(hands=hands, tasks=tasks):
                self.assertIs(shows_short(2, rows, hands, tasks), False)

    def test_tasks_told_that_none_of_the_hands_can_do(self):
        self.assertIs(shows_short(2, [[None, None], [None, None]], [0, 1], [1]), True)
        rows = [[None, 1, None], [None, 2, None], [None, 3, None]]
        self.assertIs(shows_short(3, rows, [0, 1, 2], [0, 1]), True)
        self.assertIs(shows_short(3, rows, [0, 1, 2], [1, 2]), True)
        self.assertIs(shows_short(3, rows, [0, 1, 2], [0, 2]), False)

    def test_a_cost_of_nought_is_a_task_that_the_hand_can_do(self):
        self.assertIs(shows_short(1, [[0]], [0], []), False)

    def test_no_hands_or_no_tasks(self):
        self.assertIs(shows_short(0, [], [], []), False)
        self.assertIs(shows_short(2, [], [0], []), False)
        self.assertIs(shows_short(0, [[]], [0], []), True)
        self.assertIs(shows_short(0, [[], []], [0, 1], []), True)
        self.assertIs(shows_short(0, [[], []], [0, 1], [0]), False)

    def test_every_small_one(self):
        for many, rows in small_tables((None, 0), most_hands=3):
            said = False
            for hands in self.rising(len(rows)):
                theirs = {task for hand in hands for task in range(many) if rows[hand][task] is not None}
                for tasks in self.rising(many):
                    expected = theirs <= set(tasks) and len(tasks) < len(hands)
                    self.assertIs(shows_short(many, rows, hands, tasks), expected, (many, rows, hands, tasks))
                    said = said or expected
            self.assertEqual(said, not list(all_dealings(many, rows)))

    def rising(self, count):
        for size in range(count + 1):
            for numbers in itertools.combinations(range(count), size):
                yield list(numbers)


class Bound(unittest.TestCase):
    def test_ordinary_ones(self):
        self.assertEqual(bound(3, ROWS, [0, 0, 0]), 2)
        self.assertEqual(bound(3, ROWS, [1, 0, 0]), 3)
        self.assertEqual(bound(3, ROWS, [2, 1, 4]), -1)
        self.assertEqual(bound(2, [[-3, 4], [None, -1]], [5, 0]), -4)

    def test_it_is_what_the_dealing_costs_where_the_prices_show_it(self):
        self.assertEqual(bound(3, ROWS, PRICES), total(3, ROWS, TASKS))

    def test_none_where_some_hand_cant_do_any_task(self):
        self.assertIsNone(bound(2, [[None, None]], [0, 0]))
        self.assertIsNone(bound(2, [[1, 2], [None, None], [1, None]], [3, 0]))
        self.assertIsNone(bound(0, [[]], []))

    def test_a_bound_though_there_is_no_dealing(self):
        self.assertEqual(bound(1, [[3], [4]], [2]), 9)

    def test_a_bound_of_nought_is_not_none(self):
        self.assertEqual(bound(1, [[0]], [0]), 0)

    def test_no_hands(self):
        self.assertEqual(bound(0, [], []), 0)
        self.assertEqual(bound(3, [], [0, 0, 0]), 0)
        self.assertEqual(bound(3, [], [1, 2, 3]), -6)

    def test_great_numbers(self):
        self.assertEqual(bound(2, [[-GREAT, BEYOND], [GREAT, None]], [GREAT, BEYOND]), GREAT - BEYOND)

    def test_no_prices(self):
        for rows in (ROWS, [], [[None, None, None]]):
            for prices in ([0, 0], [0, 0, 0, 0], [], [0, 0, -1], [-1, 0, 0], [4, -GREAT, 5]):
                with self.subTest(rows=rows, prices=prices), self.assertRaises(NoPrices):
                    bound(3, rows, prices)
        for rows in ([], [[]]):
            with self.subTest(rows=rows), self.assertRaises(NoPrices):
                bound(0, rows, [0])

    def test_no_dealing_costs_less(self):
        for many, rows in small_tables((None, -1, 2)):
            idle = any(row == [None] * many for row in rows)
            for prices in itertools.product((0, 1, 3), repeat=many):
                told = bound(many, rows, list(prices))
                self.assertEqual(told is None, idle)
                for tasks in all_dealings(many, rows):
                    self.assertLessEqual(told, cost_of(rows, tasks))


class AllOfThem(unittest.TestCase):
    def test_no_table_ahead_of_all_else(self):
        tables = ((2, [[1, 2], [3]]), (2, [[1, 2, 3], [4, 5]]), (2, [[1, 2], []]), (0, [[], [1]]), (1, [[], [None]]))
        for many, rows in tables:
            for numbers in ([], [0], [0, 1], [1, 0], [0, 0], [-1, 5, 5]):
                asked = {
                    "total": lambda: total(many, rows, numbers),
                    "shows_least": lambda: shows_least(many, rows, numbers, [0] * many),
                    "shows_least, prices": lambda: shows_least(many, rows, [0, 1], numbers),
                    "shows_short": lambda: shows_short(many, rows, numbers, []),
                    "shows_short, tasks": lambda: shows_short(many, rows, [0, 1], numbers),
                    "bound": lambda: bound(many, rows, numbers),
                }
                for name, ask in asked.items():
                    with self.subTest(name, many=many, rows=rows, numbers=numbers), self.assertRaises(NoTable):
                        ask()

    def test_nothing_that_is_handed_in_is_changed(self):
        calls = (
            (total, (3, ROWS, TASKS)),
            (total, (3, ROWS, [1, 1])),
            (shows_least, (3, ROWS, TASKS, PRICES)),
            (shows_least, (3, ROWS, [0, 1], [3, 2, 1])),
            (shows_short, (4, SHORT, [0, 2, 3], [1, 2])),
            (shows_short, (4, SHORT, [3, 2, 0], [2, 1])),
            (bound, (3, ROWS, PRICES)),
            (bound, (3, ROWS, [2, -1, 0])),
            (bound, (2, [[None, None]], [2, 1])),
        )
        for function, handed in calls:
            kept = copy.deepcopy(handed)
            with self.subTest(function.__name__, handed=kept):
                try:
                    function(*handed)
                except (NoDealing, NoPrices):
                    pass
                self.assertEqual(handed, kept)

    def test_nothing_is_kept_from_one_call_to_the_next(self):
        rows = [[1, 2], [1, 5]]
        prices = [1, 0]
        self.assertEqual(bound(2, rows, prices), 3)
        rows[1][0] = 0
        self.assertEqual(total(2, rows, [1, 0]), 2)
        self.assertEqual(bound(2, rows, prices), 2)
        prices[0] = 0
        self.assertIs(shows_least(2, rows, [1, 0], prices), False)

    def test_a_hundred_hands_and_tasks(self):
        rows = [[GREAT if hand == task else None for task in range(100)] for hand in range(100)]
        tasks = list(range(100))
        self.assertEqual(total(100, rows, tasks), 100 * GREAT)
        self.assertIs(shows_least(100, rows, tasks, [GREAT] * 100), True)
        self.assertEqual(bound(100, rows, [GREAT] * 100), 100 * GREAT)
        self.assertIs(shows_short(99, [row[:99] for row in rows], tasks, tasks[:99]), True)


if __name__ == "__main__":
    unittest.main()
