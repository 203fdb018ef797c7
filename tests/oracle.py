"""What the tests hold the program's answers against: slow and plain, and nothing of the program's own in it."""

import itertools
import random

GREAT = 10 ** 100 - 1
BEYOND = 10 ** 130 + 7

NOT_TABLES = (
    (2, [[1, 2], [3]]),
    (2, [[1, 2, 3], [4, 5]]),
    (2, [[1, 2], []]),
    (2, [[None, None, None]]),
    (0, [[], [1]]),
    (1, [[], [None]]),
    (3, [[]]),
)


def small_tables(costs, most_hands=2, most_tasks=2):
    for many in range(most_tasks + 1):
        for count in range(most_hands + 1):
            for flat in itertools.product(costs, repeat=many * count):
                yield many, [list(flat[many * hand:many * hand + many]) for hand in range(count)]


def made_up_row(chance, many, reach, gaps):
    return [None if chance.random() < gaps else chance.randint(-reach, reach) for task in range(many)]


def made_up_tables(seed, times, most_hands=5, most_tasks=6):
    chance = random.Random(seed)
    for time in range(times):
        many = chance.randint(0, most_tasks)
        reach = chance.choice((0, 1, 3, 20, GREAT, BEYOND))
        gaps = chance.choice((0, 0.2, 0.5, 0.8))
        yield many, [made_up_row(chance, many, reach, gaps) for hand in range(chance.randint(0, most_hands))]


def all_dealings(many, rows):
    for tasks in itertools.permutations(range(many), len(rows)):
        if None not in [row[task] for row, task in zip(rows, tasks)]:
            yield list(tasks)


def cost_of(rows, tasks):
    answer = 0
    for hand, task in enumerate(tasks):
        answer += rows[hand][task]
    return answer


def least_cost(many, rows):
    return min((cost_of(rows, tasks) for tasks in all_dealings(many, rows)), default=None)


def least_is_shown(many, rows, tasks, prices):
    if len(tasks) != len(rows) or len(set(tasks)) < len(tasks) or len(prices) != many or min(prices, default=0) < 0:
        return False
    for row, own in zip(rows, tasks):
        if own not in range(many) or row[own] is None:
            return False
        for task in range(many):
            if row[task] is not None and row[task] + prices[task] < row[own] + prices[own]:
                return False
    return all(prices[task] == 0 for task in range(many) if task not in tasks)


def short_is_shown(many, rows, hands, tasks):
    theirs = {task for hand in hands for task in range(many) if rows[hand][task] is not None}
    return (
        hands == sorted(set(hands)) and set(hands) <= set(range(len(rows)))
        and tasks == sorted(set(tasks)) and theirs <= set(tasks) <= set(range(many))
        and len(tasks) < len(hands)
    )


def all_whole_numbers(numbers):
    return isinstance(numbers, list) and all(number.__class__ is int for number in numbers)


def fits(many, rows, answer):
    """Whether this is an answer that may be told of the table: its form, and what it shows."""
    if answer.__class__ is not tuple or len(answer) != 3:
        return False
    if not all_whole_numbers(answer[1]) or not all_whole_numbers(answer[2]):
        return False
    if answer[0] == "dealt":
        return least_is_shown(many, rows, answer[1], answer[2])
    return answer[0] == "short" and short_is_shown(many, rows, answer[1], answer[2])
