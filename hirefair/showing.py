"""What a dealing costs, and what shows that it is the least, or that there is none."""

from hirefair.errors import NoDealing, NoPrices
from hirefair.table import check_table


# The bounds are asked first: an index below nought would find a cost at the row's other end.
def can_do(row, task):
    return 0 <= task < len(row) and row[task] is not None


def is_dealing(rows, tasks):
    if len(tasks) != len(rows) or len(set(tasks)) != len(tasks):
        return False
    return all([can_do(row, task) for row, task in zip(rows, tasks)])


def are_prices(many, prices):
    return len(prices) == many and all([price >= 0 for price in prices])


# None where the hand of this row can't do any task.
def cheapest(row, prices):
    return min([cost + price for cost, price in zip(row, prices) if cost is not None], default=None)


# Asked of a task that the hand of this row can do.
def is_content(row, task, prices):
    return row[task] + prices[task] == cheapest(row, prices)


def all_content(rows, tasks, prices):
    return all([is_content(row, task, prices) for row, task in zip(rows, tasks)])


def left_over_are_free(tasks, prices):
    return all([price == 0 or task in tasks for task, price in enumerate(prices)])


def rises_within(numbers, count):
    before = -1
    for number in numbers:
        if not before < number < count:
            return False
        before = number
    return True


def all_told(row, tasks):
    return all([cost is None or task in tasks for task, cost in enumerate(row)])


def total(many, rows, tasks):
    check_table(many, rows)
    if not is_dealing(rows, tasks):
        raise NoDealing("the tasks are no dealing of the table")
    return sum([row[task] for row, task in zip(rows, tasks)])


def shows_least(many, rows, tasks, prices):
    check_table(many, rows)
    if not is_dealing(rows, tasks) or not are_prices(many, prices):
        return False
    return all_content(rows, tasks, prices) and left_over_are_free(tasks, prices)


def shows_short(many, rows, hands, tasks):
    check_table(many, rows)
    if not rises_within(hands, len(rows)) or not rises_within(tasks, many):
        return False
    return len(tasks) < len(hands) and all([all_told(rows[hand], tasks) for hand in hands])


def bound(many, rows, prices):
    check_table(many, rows)
    if not are_prices(many, prices):
        raise NoPrices("the prices are not one number for each task, nought or more")
    least = [cheapest(row, prices) for row in rows]
    if None in least:
        return None
    return sum(least) - sum(prices)
