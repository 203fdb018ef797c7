import copy
import unittest

from hirefair.errors import NoNote, NoTable
from hirefair.notes import read, shown
from oracle import BEYOND, GREAT, NOT_TABLES, made_up_tables, small_tables

EXAMPLE = ["3", "4,no,-1", "0,12,7"]
EXAMPLE_ROWS = [[4, None, -1], [0, 12, 7]]


class Shown(unittest.TestCase):
    def test_the_documents_example(self):
        self.assertEqual(shown(3, EXAMPLE_ROWS), EXAMPLE)

    def test_no_hands(self):
        self.assertEqual(shown(0, []), ["0"])
        self.assertEqual(shown(12, []), ["12"])

    def test_no_tasks_with_hands(self):
        self.assertEqual(shown(0, [[], []]), ["0", "", ""])

    def test_one_task(self):
        self.assertEqual(shown(1, [[0], [None], [-10], [100]]), ["1", "0", "no", "-10", "100"])

    def test_great_numbers(self):
        self.assertEqual(shown(2, [[GREAT, -GREAT]]), ["2", "9" * 100 + ",-" + "9" * 100])
        self.assertEqual(shown(1, [[-BEYOND]]), ["1", "-1" + "0" * 129 + "7"])

    def test_no_table(self):
        for many, rows in NOT_TABLES:
            with self.subTest(many=many, rows=rows), self.assertRaises(NoTable):
                shown(many, rows)

    def test_what_is_handed_in_stays_as_it_was(self):
        rows = copy.deepcopy(EXAMPLE_ROWS)
        lines = shown(3, rows)
        self.assertEqual(rows, EXAMPLE_ROWS)
        rows[0][0] = 77
        rows.append([1, 2, 3])
        self.assertEqual(lines, EXAMPLE)
        lines.append("7")
        self.assertEqual(shown(3, EXAMPLE_ROWS), EXAMPLE)


class Read(unittest.TestCase):
    def check_refused(self, lines):
        with self.subTest(lines=lines), self.assertRaises(NoNote):
            read(lines)

    def test_the_documents_example(self):
        self.assertEqual(read(EXAMPLE), (3, EXAMPLE_ROWS))

    def test_the_kinds(self):
        answer = read(EXAMPLE)
        self.assertIs(answer.__class__, tuple)
        self.assertIs(answer[0].__class__, int)
        self.assertIs(answer[1].__class__, list)
        self.assertEqual([row.__class__ for row in answer[1]], [list, list])
        self.assertEqual([cost.__class__ for cost in answer[1][1]], [int, int, int])

    def test_no_hands(self):
        self.assertEqual(read(["0"]), (0, []))
        self.assertEqual(read(["12"]), (12, []))
        self.assertEqual(read(["9" * 100]), (GREAT, []))

    def test_no_tasks_with_hands(self):
        self.assertEqual(read(["0", "", ""]), (0, [[], []]))

    def test_one_task(self):
        self.assertEqual(read(["1", "0", "no", "-10", "100"]), (1, [[0], [None], [-10], [100]]))

    def test_great_numbers(self):
        self.assertEqual(read(["2", "9" * 100 + ",-1" + "0" * 129 + "7"]), (2, [[GREAT, -BEYOND]]))

    def test_what_was_shown_is_given_back(self):
        tables = list(small_tables((None, 0, -1, 10))) + list(made_up_tables(9, 300))
        tables.append((100, [[(-1) ** task * GREAT + hand for task in range(100)] for hand in range(100)]))
        for many, rows in tables:
            lines = shown(many, rows)
            kept = list(lines)
            self.assertEqual(read(lines), (many, rows))
            self.assertEqual(lines, kept)

    def test_no_line_at_all(self):
        self.check_refused([])

    def test_first_lines(self):
        wrong = (
            "", "x", "no", "-1", "-0", "07", "00", "+3", " 3", "3 ", "3\n", "\n3", "\t3", "3\r", "3,", "3,4", "3.0",
            "0x3", "1_0", "-", "--3", "3-", "1e2", "None", "\u0663", "\uff13", "\u00b3", "3\u0663", "\u2212" + "3",
        )
        for line in wrong:
            self.check_refused([line])
            self.check_refused([line, "1,2,3"])

    def test_rows_with_more_or_fewer_costs(self):
        for many in range(4):
            for count in range(6):
                line = ",".join(["5"] * count)
                if count == many:
                    self.assertEqual(read([str(many), line]), (many, [[5] * count]))
                else:
                    self.check_refused([str(many), line])
                    self.check_refused([str(many), ",".join(["5"] * many), line])
        self.check_refused(["0", "no"])
        self.check_refused(["1" + "0" * 40, "5"])

    def test_costs(self):
        wrong = (
            "", " ", "-0", "07", "-07", "00", "-00", "+3", "+0", "-", "--3", "-+3", "3-", " 3", "3 ", "- 3", "1 2",
            "3\n", "\n3", "3\t", "3\r", "3.", "3.0", "1_0", "0x1", "1e2", "No", "NO", "n", "noo", "no ", " no", "-no",
            "nono", "None", "x", ";", "3;4", "'3'", "\u0663", "\uff13", "\u00b3", "1\u0663", "\u2212" + "3",
            "\u00a0" + "3", "-" + "0" * 100, "0" + "9" * 100,
        )
        for piece in wrong:
            self.check_refused(["1", piece])
            self.check_refused(["3", "1," + piece + ",2"])
            self.check_refused(["2", piece + ",2"])
            self.check_refused(["2", "1,no", "1," + piece])

    def test_no_other_sign_anywhere(self):
        for sign in [chr(number) for number in range(0x3000) if chr(number) not in "0123456789"]:
            for line in ("1" + sign, "1" + sign + "2", sign):
                self.check_refused([line])
                self.check_refused(["1", line])
            self.check_refused(["1" + sign, "1"])
            if sign != "-":
                self.check_refused([sign + "1"])
                self.check_refused(["1", sign + "1"])

    def test_empty_pieces(self):
        for line in (",", "1,", ",1", "1,,2", ",,"):
            for many in range(5):
                self.check_refused([str(many), line])

    def test_blank_rows(self):
        self.check_refused(["0", " "])
        self.check_refused(["0", "\n"])
        self.check_refused(["1", ""])
        self.check_refused(["3", "4,no,-1", "0,12,7", ""])
        self.check_refused(["3", "4, no, -1"])
        self.check_refused(["3", "4,no,-1\n"])
        self.check_refused(["", "3", "4,no,-1"])

    def test_no_lines_in_a_list(self):
        for wrong in ("3", "", ("3", "4,no,-1"), None, 3, [3], [None], ["1", 5], ["1", ["5"]]):
            self.check_refused(wrong)

    def test_what_is_handed_in_stays_as_it_was(self):
        lines = list(EXAMPLE)
        answer = read(lines)
        self.assertEqual(lines, EXAMPLE)
        lines[1] = "1,1,1"
        lines.append("2,2,2")
        self.assertEqual(answer, (3, EXAMPLE_ROWS))
        answer[1][0][0] = 77
        self.assertEqual(read(EXAMPLE), (3, EXAMPLE_ROWS))


if __name__ == "__main__":
    unittest.main()
