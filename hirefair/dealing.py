"""A dealing that costs the least, with prices that show it, or the hands that show why there is none."""

from hirefair.board import settled, told
from hirefair.showing import shows_least, total
from hirefair.table import check_table, recosted


def dealt(many, rows):
    check_table(many, rows)
    return told(settled(many, rows, [], [0] * many))


def least_total(many, rows):
    answer = dealt(many, rows)
    if answer[0] == "short":
        return None
    return total(many, rows, answer[1])


def redealt(many, rows, tasks, prices, hand, task, cost):
    table = recosted(many, rows, hand, task, cost)
    if shows_least(many, table, tasks, prices):
        return ("kept", list(tasks), list(prices))
    return dealt(many, table)
