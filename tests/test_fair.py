import copy
import random
import unittest

from hirefair.errors import NoHand, NoTable, NoTask
from hirefair.fair import Fair, answers
from oracle import BEYOND, GREAT, all_whole_numbers, fits, least_cost, made_up_row


def fits_by_numbers(many, there, answer):
    """Whether a deal may be answered so, `there` being the rows by the hands' numbers."""
    numbers = sorted(there)
    rows = [there[number] for number in numbers]
    told, first, second = answer
    if answer.__class__ is not tuple or first.__class__ is not list:
        return False
    if told == "short":
        if not all_whole_numbers(first) or not set(first) <= set(numbers):
            return False
        return fits(many, rows, ("short", [numbers.index(number) for number in first], second))
    if [pair.__class__ for pair in first] != [tuple] * len(numbers) or [pair[0] for pair in first] != numbers:
        return False
    return fits(many, rows, (told, [pair[1] for pair in first], second))


class Model:
    """What a fair should answer, but for its deals; these are looked at when they come."""

    def __init__(self, many):
        self.many = many
        self.there = {}
        self.given = 0

    def expected(self, deed):
        if deed[0] == "come":
            if len(deed[1]) != self.many:
                return "no table"
            self.there[self.given] = list(deed[1])
            self.given += 1
            return self.given - 1
        if deed[1] not in self.there:
            return "no hand"
        if deed[0] == "leave":
            del self.there[deed[1]]
        elif deed[2] not in range(self.many):
            return "no task"
        else:
            self.there[deed[1]][deed[2]] = deed[3]
        return "done"


class MadeUpDay:
    """Deeds of every sort, right ones and wrong ones."""

    def __init__(self, seed, many, most, reach, gaps):
        self.chance = random.Random(seed)
        self.many = many
        self.most = most
        self.reach = reach
        self.gaps = gaps

    def row(self):
        wrong = self.chance.choice((-1, 1)) if self.chance.random() < 0.05 else 0
        return made_up_row(self.chance, max(0, self.many + wrong), self.reach, self.gaps)

    def number(self, model):
        if model.there and self.chance.random() < 0.9:
            return self.chance.choice(sorted(model.there))
        return self.chance.randint(-1, model.given)

    def deeds(self, count):
        model = Model(self.many)
        for time in range(count):
            deed = self.deed(model)
            if deed[0] != "deal":
                model.expected(deed)
            yield deed

    def deed(self, model):
        sort = self.chance.choice(("come", "come", "leave", "cost", "cost", "deal", "deal", "deal"))
        if sort == "come" and len(model.there) >= self.most:
            sort = "leave"
        if sort == "come":
            return ("come", self.row())
        if sort == "leave":
            return ("leave", self.number(model))
        if sort == "cost":
            task = self.chance.randint(0, self.many - 1) if self.many and self.chance.random() < 0.9 else -1
            return ("cost", self.number(model), task, made_up_row(self.chance, 1, self.reach, self.gaps)[0])
        return ("deal",)


class Numbers(unittest.TestCase):
    def test_from_nought_on(self):
        fair = Fair(2)
        self.assertEqual([fair.come([1, 2]), fair.come([1, 2]), fair.come([None, 2])], [0, 1, 2])

    def test_none_is_given_a_second_time(self):
        fair = Fair(1)
        self.assertEqual([fair.come([1]), fair.come([2])], [0, 1])
        fair.leave(1)
        self.assertEqual(fair.come([3]), 2)
        fair.leave(0)
        fair.leave(2)
        self.assertEqual(fair.come([4]), 3)
        self.assertEqual(fair.deal()[:2], ("dealt", [(3, 0)]))

    def test_a_refused_come_gives_none(self):
        fair = Fair(2)
        for row in ([1], [1, 2, 3], [], [None]):
            with self.assertRaises(NoTable):
                fair.come(row)
        self.assertEqual(fair.come([1, 2]), 0)
        with self.assertRaises(NoTable):
            fair.come([1])
        self.assertEqual(fair.come([1, 2]), 1)
        self.assertEqual([pair[0] for pair in fair.deal()[1]], [0, 1])


class Refusals(unittest.TestCase):
    def setUp(self):
        self.fair = Fair(2)
        for row in ([1, 2], [1, 5], [7, 7]):
            self.fair.come(row)
        self.fair.leave(2)

    def test_leave(self):
        for hand in (2, 3, -1, -2, GREAT):
            with self.subTest(hand=hand), self.assertRaises(NoHand):
                self.fair.leave(hand)

    def test_cost(self):
        for hand in (2, 3, -1, -2, GREAT):
            for task in (0, 1, -1, 2):
                with self.subTest(hand=hand, task=task), self.assertRaises(NoHand):
                    self.fair.set_cost(hand, task, -9)
        for hand in (0, 1):
            for task in (-1, -2, 2, 3, GREAT):
                with self.subTest(hand=hand, task=task), self.assertRaises(NoTask):
                    self.fair.set_cost(hand, task, -9)

    def test_come(self):
        for row in ([], [1], [1, 2, 3]):
            with self.subTest(row=row), self.assertRaises(NoTable):
                self.fair.come(row)

    def test_no_tasks(self):
        fair = Fair(0)
        self.assertEqual(fair.come([]), 0)
        with self.assertRaises(NoTable):
            fair.come([1])
        with self.assertRaises(NoTask):
            fair.set_cost(0, 0, 1)
        self.assertEqual(fair.deal(), ("short", [0], []))

    def test_they_change_nothing(self):
        before = self.fair.deal()
        self.test_leave()
        self.test_cost()
        self.test_come()
        self.assertTrue(fits_by_numbers(2, {0: [1, 2], 1: [1, 5]}, self.fair.deal()))
        self.assertEqual(self.fair.deal()[1], before[1])
        self.assertEqual(self.fair.come([0, 0]), 3)


class Deals(unittest.TestCase):
    def test_with_nobody_there(self):
        self.assertEqual(Fair(0).deal(), ("dealt", [], []))
        fair = Fair(3)
        self.assertEqual(fair.deal(), ("dealt", [], [0, 0, 0]))
        for time in range(2):
            fair.leave(fair.come([1, None, -4]))
            self.assertEqual(fair.deal(), ("dealt", [], [0, 0, 0]))

    def test_nobody_is_there_any_more(self):
        fair = Fair(2)
        fair.come([1, 2])
        fair.come([1, 5])
        self.assertEqual(fair.deal()[1], [(0, 1), (1, 0)])
        fair.leave(0)
        self.assertEqual(fair.deal()[1], [(1, 0)])
        fair.leave(1)
        self.assertEqual(fair.deal(), ("dealt", [], [0, 0]))

    def test_pairs_by_the_hands_numbers(self):
        fair = Fair(3)
        for row in ([9, 9, 9], [1, 2, None], [9, 9, 9], [1, 5, 9]):
            fair.come(row)
        fair.leave(0)
        fair.leave(2)
        answer = fair.deal()
        self.assertEqual(answer[:2], ("dealt", [(1, 1), (3, 0)]))
        self.assertTrue(fits_by_numbers(3, {1: [1, 2, None], 3: [1, 5, 9]}, answer), answer)

    def test_short_by_the_hands_numbers(self):
        fair = Fair(3)
        for row in ([9, 9, 9], [1, 1, 1], [None, 4, None], [9, 9, 9], [None, 0, None]):
            fair.come(row)
        fair.leave(0)
        fair.leave(3)
        self.assertEqual(fair.deal(), ("short", [2, 4], [1]))

    def test_short_and_dealt_by_turns(self):
        fair = Fair(2)
        fair.come([3, None])
        fair.come([4, None])
        self.assertEqual(fair.deal(), ("short", [0, 1], [0]))
        fair.set_cost(0, 1, 50)
        self.assertEqual(fair.deal()[1], [(0, 1), (1, 0)])
        self.assertEqual(fair.come([0, 0]), 2)
        self.assertEqual(fair.deal(), ("short", [0, 1, 2], [0, 1]))
        fair.leave(1)
        self.assertEqual(fair.deal()[1], [(0, 0), (2, 1)])
        fair.set_cost(2, 1, None)
        self.assertEqual(fair.deal()[1], [(0, 1), (2, 0)])

    def test_a_task_that_is_left_over_again_has_the_price_nought(self):
        fair = Fair(2)
        fair.come([1, 10])
        fair.come([1, 20])
        self.assertEqual(fair.deal()[1], [(0, 1), (1, 0)])
        fair.leave(1)
        self.assertEqual(fair.deal()[1], [(0, 0)])
        self.assertTrue(fits_by_numbers(2, {0: [1, 10]}, fair.deal()))
        fair.set_cost(0, 0, None)
        self.assertTrue(fits_by_numbers(2, {0: [None, 10]}, fair.deal()))

    def test_the_least_sum_by_all_dealings(self):
        for seed in range(30):
            day = MadeUpDay(seed, seed % 5, 5, (1, 9, GREAT, BEYOND)[seed % 4], (0, 0.3, 0.6)[seed % 3])
            fair = Fair(day.many)
            model = Model(day.many)
            for deed in day.deeds(60):
                if deed[0] != "deal":
                    self.do(fair, deed, model.expected(deed))
                else:
                    self.check(day.many, model.there, fair.deal())

    def do(self, fair, deed, expected):
        refusals = {"no table": NoTable, "no hand": NoHand, "no task": NoTask}
        method = {"come": fair.come, "leave": fair.leave, "cost": fair.set_cost}[deed[0]]
        if expected in refusals:
            with self.assertRaises(refusals[expected]):
                method(*deed[1:])
        else:
            self.assertEqual(method(*deed[1:]), None if expected == "done" else expected)

    def check(self, many, there, answer):
        self.assertTrue(fits_by_numbers(many, there, answer), (many, there, answer))
        least = least_cost(many, [there[number] for number in sorted(there)])
        self.assertEqual(answer[0] == "short", least is None)
        if least is not None:
            self.assertEqual(sum(there[number][task] for number, task in answer[1]), least)


class NothingIsKept(unittest.TestCase):
    def test_the_methods_that_give_nothing_back(self):
        fair = Fair(1)
        fair.come([3])
        self.assertIsNone(fair.set_cost(0, 0, None))
        self.assertIsNone(fair.leave(0))

    def test_a_row_changed_behind_its_coming(self):
        fair = Fair(2)
        row = [1, 9]
        fair.come(row)
        row[0] = 99
        row.append(5)
        self.assertEqual(fair.deal()[1], [(0, 0)])
        fair.set_cost(0, 1, -3)
        self.assertEqual(row, [99, 9, 5])

    def test_two_hands_that_come_with_one_list(self):
        fair = Fair(2)
        row = [1, 2]
        fair.come(row)
        fair.come(row)
        fair.set_cost(1, 0, 7)
        self.assertEqual(fair.deal()[1], [(0, 0), (1, 1)])
        self.assertTrue(fits_by_numbers(2, {0: [1, 2], 1: [7, 2]}, fair.deal()))
        self.assertEqual(row, [1, 2])

    def test_an_answer_changed_behind_its_telling(self):
        fair = Fair(2)
        fair.come([1, 2])
        fair.come([1, 5])
        answer = fair.deal()
        told = copy.deepcopy(answer)
        answer[1].clear()
        answer[2][0] = -50
        answer[2].append(50)
        self.assertEqual(fair.deal(), told)
        self.assertEqual(fair.come([0, 0]), 2)
        answer = fair.deal()
        self.assertEqual(answer, ("short", [0, 1, 2], [0, 1]))
        answer[1].clear()
        answer[2].clear()
        self.assertEqual(fair.deal(), ("short", [0, 1, 2], [0, 1]))

    def test_a_told_answer_stays(self):
        fair = Fair(2)
        fair.come([1, 2])
        fair.come([1, 5])
        answer = fair.deal()
        told = copy.deepcopy(answer)
        fair.set_cost(0, 1, 40)
        fair.deal()
        fair.leave(1)
        fair.come([-7, -7])
        fair.deal()
        self.assertEqual(answer, told)

    def test_two_fairs_beside_each_other(self):
        one, other = Fair(2), Fair(2)
        self.assertEqual([one.come([1, 2]), one.come([1, 5]), other.come([3, 1])], [0, 1, 0])
        self.assertEqual(other.deal()[1], [(0, 1)])
        self.assertEqual(one.deal()[1], [(0, 1), (1, 0)])
        other.set_cost(0, 1, 9)
        one.leave(0)
        self.assertEqual(other.deal()[1], [(0, 0)])
        self.assertEqual(one.deal()[1], [(1, 0)])
        with self.assertRaises(NoHand):
            other.leave(1)


class Answers(unittest.TestCase):
    def check_day(self, many, deeds):
        kept = copy.deepcopy(deeds)
        told = answers(many, deeds)
        self.assertEqual(deeds, kept)
        self.assertIs(told.__class__, list)
        self.assertEqual(len(told), len(deeds))
        model = Model(many)
        seen = set()
        for deed, answer in zip(deeds, told):
            if deed[0] == "deal":
                self.assertTrue(fits_by_numbers(many, model.there, answer), (many, model.there, answer))
                seen.add(answer[0])
            else:
                self.assertEqual(answer, model.expected(deed), deed)
                self.assertIs(answer.__class__, int if deed[0] == "come" and answer != "no table" else str)
                seen.add(answer)
        return seen

    def test_an_ordinary_day(self):
        told = answers(3, [
            ("come", [9, 9, 9]), ("come", [1, 2, None]), ("leave", 0), ("come", [1, 5, 9]), ("deal",),
            ("cost", 2, 2, -20), ("deal",), ("cost", 1, 1, None), ("cost", 2, 2, None), ("cost", 2, 1, None), ("deal",),
        ])
        self.assertEqual(told[:4], [0, 1, "done", 2])
        self.assertEqual(told[4][:2], ("dealt", [(1, 1), (2, 0)]))
        self.assertEqual(told[5], "done")
        self.assertEqual(told[6][:2], ("dealt", [(1, 0), (2, 2)]))
        self.assertEqual(told[7:], ["done", "done", "done", ("short", [1, 2], [0])])

    def test_the_texts_of_the_refusals(self):
        told = answers(2, [
            ("come", [1]), ("come", [1, 2, 3]), ("leave", 0), ("cost", 0, 0, 1), ("cost", 0, 9, 1), ("come", [1, 2]),
            ("cost", 0, 2, 1), ("cost", 0, -1, None), ("cost", 1, 2, 1), ("leave", 0), ("leave", 0), ("cost", 0, 0, 1),
            ("leave", -1), ("come", [3, 4]), ("deal",),
        ])
        self.assertEqual(told[:-1], [
            "no table", "no table", "no hand", "no hand", "no hand", 0,
            "no task", "no task", "no hand", "done", "no hand", "no hand",
            "no hand", 1,
        ])
        self.assertEqual(told[-1][:2], ("dealt", [(1, 0)]))

    def test_no_deeds(self):
        self.assertEqual(answers(0, []), [])
        self.assertEqual(answers(5, []), [])

    def test_deals_alone(self):
        self.assertEqual(answers(2, [("deal",), ("deal",)]), [("dealt", [], [0, 0])] * 2)

    def test_each_day_begins_anew(self):
        deeds = [("come", [4]), ("deal",)]
        first = answers(1, deeds)
        self.assertEqual(first[0], 0)
        first[1][1].append((8, 8))
        first[1][2][0] = -1
        second = answers(1, deeds)
        self.assertEqual(second[0], 0)
        self.assertTrue(fits_by_numbers(1, {0: [4]}, second[1]))

    def test_answers_share_no_list_with_one_another_or_the_deeds(self):
        row = [1, 2]
        deeds = [("come", row), ("deal",), ("deal",), ("come", row), ("come", row), ("deal",), ("deal",)]
        told = answers(2, deeds)
        kept = copy.deepcopy(told)
        row.append(77)
        self.assertEqual(told, kept)
        for changed, other in ((1, 2), (5, 6)):
            told[changed][1].append(77)
            told[changed][2].append(78)
            self.assertEqual(told[other], kept[other])

    def test_made_up_days(self):
        seen = set()
        for seed in range(60):
            day = MadeUpDay(seed, seed % 8, 8, (0, 2, 30, GREAT)[seed % 4], (0, 0.2, 0.5, 0.8)[seed // 4 % 4])
            seen |= {answer for answer in self.check_day(day.many, list(day.deeds(120))) if answer.__class__ is str}
        self.assertEqual(seen, {"done", "dealt", "short", "no table", "no hand", "no task"})

    def test_a_thousand_deeds_with_a_hundred_hands_and_tasks(self):
        for gaps in (0, 0.9, 0.97):
            chance = random.Random(7)
            deeds = [("come", made_up_row(chance, 100, GREAT, gaps)) for hand in range(100)]
            for turn in range(300):
                if turn % 2 == 0:
                    deeds.append(("cost", turn // 2, chance.randrange(100), chance.randint(-GREAT, GREAT)))
                elif turn % 4 == 1:
                    deeds.append(("leave", turn // 2))
                else:
                    deeds.append(("come", made_up_row(chance, 100, GREAT, gaps)))
                deeds.append(("deal",))
                deeds.append(("deal",))
            self.assertEqual(len(deeds), 1000)
            self.check_day(100, deeds)

    def test_a_day_on_which_each_change_moves_everybody(self):
        deeds = [("come", [(hand + 1) * (task + 1) * 10 ** 96 for task in range(100)]) for hand in range(100)]
        for turn in range(150):
            deeds.append(("leave", turn))
            deeds.append(("deal",))
            deeds.append(("come", [(turn % 7 + 1) * (task + 1) * 10 ** 96 for task in range(100)]))
            deeds.append(("deal",))
            deeds.append(("cost", turn + 1, turn % 100, -GREAT))
            deeds.append(("deal",))
        self.assertEqual(self.check_day(100, deeds) & {"dealt", "short", "no hand"}, {"dealt"})


if __name__ == "__main__":
    unittest.main()
