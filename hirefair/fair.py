"""A fair: hands come and leave, costs change, and who is there is dealt out."""

from hirefair.board import settled, told
from hirefair.errors import NoHand, NoTable, NoTask
from hirefair.table import check_table, check_task


def check_there(rows, hand):
    if hand not in rows:
        raise NoHand("no hand with that number is there")


def by_numbers(numbers, answer):
    if answer[0] == "short":
        return ("short", [numbers[hand] for hand in answer[1]], answer[2])
    return ("dealt", list(zip(numbers, answer[1])), answer[2])


# Beside the rows it keeps the last dealing and prices, so that the next one need not be found from nothing.
class Fair:
    def __init__(self, many):
        self.many = many
        self.rows = {}
        self.given = 0
        self.tasks = {}
        self.prices = [0] * many

    def come(self, row):
        check_table(self.many, [row])
        number = self.given
        self.rows[number] = list(row)
        self.given = number + 1
        return number

    def leave(self, hand):
        check_there(self.rows, hand)
        self.rows.pop(hand)

    def set_cost(self, hand, task, cost):
        check_there(self.rows, hand)
        check_task(self.many, task)
        self.rows[hand][task] = cost

    def deal(self):
        numbers = sorted(self.rows)
        rows = [self.rows[number] for number in numbers]
        board = settled(self.many, rows, [self.tasks.get(number) for number in numbers], self.prices)
        self.tasks = dict(zip(numbers, board.tasks))
        self.prices = board.prices
        return by_numbers(numbers, told(board))


def done(fair, deed):
    if deed[0] == "come":
        return fair.come(deed[1])
    if deed[0] == "leave":
        fair.leave(deed[1])
        return "done"
    if deed[0] == "cost":
        fair.set_cost(deed[1], deed[2], deed[3])
        return "done"
    return fair.deal()


def answered(fair, deed):
    try:
        return done(fair, deed)
    except NoTable:
        return "no table"
    except NoHand:
        return "no hand"
    except NoTask:
        return "no task"


def answers(many, deeds):
    fair = Fair(many)
    return [answered(fair, deed) for deed in deeds]
