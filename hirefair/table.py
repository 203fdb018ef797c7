"""Tables of costs, and the changes that may be made to one."""

from hirefair.errors import NoHand, NoTable, NoTask


def check_table(many, rows):
    for row in rows:
        if len(row) != many:
            raise NoTable("a row has more or fewer costs than there are tasks")


def check_hand(rows, hand):
    if not 0 <= hand < len(rows):
        raise NoHand("there is no such hand")


def check_task(many, task):
    if not 0 <= task < many:
        raise NoTask("there is no such task")


# Every row is copied, the unchanged ones too: an answer shares no list with what was handed in.
def copied(rows):
    return [list(row) for row in rows]


def raised_row(row, more):
    return [None if cost is None else cost + more for cost in row]


def recosted(many, rows, hand, task, cost):
    check_table(many, rows)
    check_hand(rows, hand)
    check_task(many, task)
    table = copied(rows)
    table[hand][task] = cost
    return table


def raised(many, rows, hand, more):
    check_table(many, rows)
    check_hand(rows, hand)
    table = copied(rows)
    table[hand] = raised_row(rows[hand], more)
    return table
