"""Hands are set on tasks one by one, at prices with which everyone who has a task is content."""

from hirefair.showing import can_do, is_content


# The rows behind those of the hands are stand-ins, who do any task for nought and take what the hands leave over.
# Being content they have tasks of the least price: so the tasks left over come to one price, and none has a lesser.
class Board:
    def __init__(self, many, rows, prices):
        self.count = len(rows)
        self.rows = list(rows) + [[0] * many for spare in range(len(rows), many)]
        self.prices = list(prices)
        self.tasks = [None for row in self.rows]
        self.hands = [None for price in prices]
        self.short = None

    def seat(self, hand, task):
        self.tasks[hand] = task
        self.hands[task] = hand


# Ways from someone without a task: to a task, from the one who has it to another, and so on. A way is as long as all
# on it would pay more than now, by cost and price together; the first of them pays nothing now.
class Search:
    def __init__(self, many):
        self.far = [None] * many
        self.through = [None] * many
        self.ahead = list(range(many))
        self.reached = []


def look_from(board, search, hand, before):
    row = board.rows[hand]
    prices = board.prices
    far = search.far
    through = search.through
    for task in search.ahead:
        if row[task] is not None:
            length = before + row[task] + prices[task]
            if far[task] is None or length < far[task]:
                far[task] = length
                through[task] = hand


# Of equally near tasks one that nobody has comes first: there the search is at its end.
def nearest(board, search):
    far = search.far
    hands = board.hands
    known = [task for task in search.ahead if far[task] is not None]
    return min(known, key=lambda task: (far[task], hands[task] is not None), default=None)


# Nearest first, as no step makes a way shorter: everyone who has a task is content with it.
def searched(board, hand):
    search = Search(len(board.hands))
    look_from(board, search, hand, 0)
    task = nearest(board, search)
    while task is not None:
        search.ahead.remove(task)
        search.reached.append(task)
        holder = board.hands[task]
        if holder is None:
            return search
        look_from(board, search, holder, search.far[task] - board.rows[holder][task] - board.prices[task])
        task = nearest(board, search)
    return search


def has_goal(board, search):
    return len(search.reached) > 0 and board.hands[search.reached[-1]] is None


# Afterwards each step of the way to the goal leads to a task that its hand is content with.
def raise_prices(board, search):
    goal = search.far[search.reached[-1]]
    for task in search.reached:
        board.prices[task] += goal - search.far[task]


# The one from whom the search went out leaves no task behind, and so ends the way back.
def move_along(board, search):
    task = search.reached[-1]
    while task is not None:
        hand = search.through[task]
        left = board.tasks[hand]
        board.seat(hand, task)
        task = left


# Those whose tasks were reached can do no others, nor can the hand that is left without one. No stand-in is among
# them: it would reach every task, and where there are stand-ins, there is a task for everyone.
def shortage(board, search, hand):
    return (sorted([hand] + [board.hands[task] for task in search.reached]), sorted(search.reached))


def keep_content(board, tasks):
    for hand, task in enumerate(tasks):
        if task is not None and can_do(board.rows[hand], task) and is_content(board.rows[hand], task, board.prices):
            board.seat(hand, task)


# Tasks (None for a hand without one, none of them twice) and prices to begin with may be any: what no longer fits is
# done anew, so the less has changed since they were told, the less there is to do.
def settled(many, rows, tasks, prices):
    board = Board(many, rows, prices)
    keep_content(board, tasks)
    for hand in range(len(board.rows)):
        if board.tasks[hand] is None:
            search = searched(board, hand)
            if not has_goal(board, search):
                board.short = shortage(board, search, hand)
                return board
            raise_prices(board, search)
            move_along(board, search)
    return board


# Lowered alike, prices leave everyone content: the least becomes nought, and with it those of the tasks left over.
def told(board):
    if board.short is not None:
        return ("short", board.short[0], board.short[1])
    least = min(board.prices, default=0)
    return ("dealt", board.tasks[:board.count], [price - least for price in board.prices])
