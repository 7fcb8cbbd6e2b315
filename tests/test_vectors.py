"""Vectors whose tables add up, and their texts."""

import itertools
import random
import re
import unittest

from goodsigns.errors import BadText, BadVectors, Misfit
from goodsigns.vectors import Vectors
from helpers import Strange, check_raises, check_same, drawn_vectors, no_integers, no_kind

CROSS = Vectors([[1, 0], [0, 1], [1, 0], [0, 1]])


def total_of(rows):
    """The total of rows of one length whose tables add up, None if they do not."""
    places = range(len(rows[0]))
    table = [[sum([row[i] * row[j] for row in rows]) for j in places] for i in places]
    total = table[0][0]
    wanted = [[total if i == j else 0 for j in places] for i in places]
    return total if table == wanted and total > 0 else None


def first_wrong_item(text):
    """The index of the first item of a string that cannot stand, None if it is a text of Vectors."""
    items = text.split(" ")
    if items[0] not in ("1", "2", "3"):
        return 0
    length = int(items[0])
    for at, item in enumerate(items[1:], start=1):
        if (item != ":") if at == 1 else at >= 2 + 9 * length or not re.fullmatch("0|-?[1-9][0-9]{0,59}", item):
            return at
    if len(items) < 3 or (len(items) - 2) % length:
        return len(items)
    numbers = [int(item) for item in items[2:]]
    rows = [numbers[at:at + length] for at in range(0, len(numbers), length)]
    return None if total_of(rows) is not None else len(items) - 1


class Values(unittest.TestCase):
    def check_rows(self, rows):
        """Check what rows of one length are made into, and tell whether they add up."""
        total = total_of(rows)
        if total is None:
            check_raises(self, Misfit("sum"), Vectors, rows)
            return False
        found = Vectors(rows=rows)
        self.assertEqual((found.rows, found.total), (tuple([tuple(row) for row in rows]), total))
        self.assertEqual(found.longest, max([sum([number * number for number in row]) for row in rows]))
        self.assertEqual(str(found), " ".join([str(len(rows[0])), ":"] + [str(number) for row in rows for number in row]))
        self.assertEqual(Vectors.read(str(found)), found)
        return True

    def test_all_small_rows(self):
        for length, many in ((1, 1), (1, 2), (1, 3), (2, 1), (2, 2), (2, 3), (3, 3)):
            told = {True: 0, False: 0}
            kinds = list(itertools.product((-1, 0, 1) if length == 3 else (-2, -1, 0, 1, 2), repeat=length))
            for rows in itertools.product(kinds, repeat=many):
                if length < 3 or sum([abs(number) for number in rows[0]]) == 1:
                    told[self.check_rows([list(row) for row in rows])] += 1
            self.assertGreater(told[False], 0)
            self.assertEqual(told[True] > 0, many >= length)

    def test_one_to_nine_rows(self):
        draw = random.Random(141)
        for length in (1, 2, 3):
            for many in range(length, 10):
                for _ in range(5):
                    rows = drawn_vectors(draw, length, many)
                    self.assertTrue(self.check_rows(rows))
                    mirrored = [[-number for number in row] if draw.random() < 0.5 else row for row in rows]
                    self.assertTrue(self.check_rows(mirrored[::-1]))
                    bent = [list(row) for row in rows]
                    bent[draw.randrange(many)][draw.randrange(length)] += draw.choice((1, -1, 10 ** 20))
                    self.check_rows(bent)
        self.assertTrue(self.check_rows([[0, 0], [3, 4], [0, 0], [4, -3]]))
        self.assertFalse(self.check_rows([[0]]))
        self.assertFalse(self.check_rows([[0, 0, 0]] * 9))
        self.assertFalse(self.check_rows([[1, 0, 0], [0, 1, 0]]))

    def test_long_integers(self):
        far = 10 ** 64
        found = Vectors([[far, 0, 0], [0, -far, 0], (0, 0, far)])
        self.assertEqual((found.total, found.longest), (far ** 2, far ** 2))
        self.assertEqual(str(found), f"3 : {far} 0 0 0 -{far} 0 0 0 {far}")
        # In parts, as Python's own str refuses an integer of more than 4,300 digits.
        self.assertEqual(str(Vectors([[10 ** 4400]])), "1 : 1" + "0" * 4400)

    def test_equality(self):
        self.assertTrue(CROSS == Vectors(((1, 0), (0, 1), (1, 0), (0, 1))))
        for rows in ([[0, 1], [1, 0], [1, 0], [0, 1]], [[1, 0], [0, 1]], [[-1, 0], [0, 1], [1, 0], [0, 1]], [[1]]):
            check_same(self, CROSS == Vectors(rows), False)
            check_same(self, CROSS != Vectors(rows), True)
        for other in no_kind(Vectors):
            check_same(self, CROSS == other, False)

    def test_rows_are_copied(self):
        rows = [[1, 0], [0, 1]]
        found = Vectors(rows)
        rows[0][0] = 5
        rows.append([0, 0])
        self.assertEqual(found.rows, ((1, 0), (0, 1)))
        rows = [[1, 0], (0, 1)]
        Vectors(rows)
        self.assertEqual((rows, type(rows[0]), type(rows[1])), ([[1, 0], (0, 1)], list, tuple))

    def test_wrong_rows(self):
        for value in no_integers() + [0, 1, "12"]:
            check_raises(self, BadVectors("rows"), Vectors, value)
            check_raises(self, BadVectors("rows"), Vectors, [value] if value not in ([1], (1,)) or isinstance(value, Strange) else None)
            check_raises(self, BadVectors("rows"), Vectors, [[1, 0], value])
        for value in no_integers():
            for rows in ([[value]], [[1, 0], [value, 1]], [[1, 0, 0], [0, 1, 0], (0, 0, value)]):
                check_raises(self, BadVectors("rows"), Vectors, rows)
        for rows in ([], (), [[]], [[], []], [[1], []], [[1, 0], [0]], [[1, 0, 0, 0]], [[1]] * 10, [[0, 1], [1, 0]] * 5, [[1, 0], [0, 1, 0]],
                     [[1, 0], [1, 0, True]]):
            check_raises(self, BadVectors("rows"), Vectors, rows)
            check_raises(self, BadVectors("rows"), Vectors, tuple(rows))


class Texts(unittest.TestCase):
    def check_text(self, text):
        """Check what read makes of a string."""
        item = first_wrong_item(text)
        if item is None:
            self.assertEqual(str(Vectors.read(text)), text)
        else:
            check_raises(self, BadText(0, item), Vectors.read, text)
        return item

    def test_items_changed_left_out_put_in(self):
        draw = random.Random(142)
        others = ["", ":", "0", "1", "2", "3", "4", "-1", "-0", "+1", "01", "x", "1.0", "10", "9" * 60, "-" + "9" * 60, "9" * 61, "\u0661"]
        wrong = {}
        for length, many in itertools.product((1, 2, 3), (1, 2, 3, 4, 6, 8, 9)):
            if many >= length:
                items = str(Vectors(drawn_vectors(draw, length, many))).split(" ")
                self.assertIsNone(self.check_text(" ".join(items)))
                for at in range(len(items) + 1):
                    changed = [items[:at] + items[at + 1:]] + [items[:at] + [other] + items[at + 1:] for other in others]
                    for each in changed + [items[:at] + [other] + items[at:] for other in others]:
                        item = self.check_text(" ".join(each))
                        wrong[item is None] = wrong.get(item is None, 0) + 1
        self.assertGreater(wrong[True], 20)

    def test_items_missing_or_too_many(self):
        for text, item in (("", 0), ("1", 1), ("1 ", 1), ("1 :", 2), ("3 :", 2), ("1 : ", 2), ("0 : 1", 0), ("4 : 1", 0), ("1 : 0", 2),
                           ("2 : 1 0 0 1 0", 7), ("3 : 1 0", 4), ("1 : " + " ".join(["1"] * 9), None), ("1 : " + " ".join(["1"] * 10), 11),
                           ("1 : " + " ".join(["0"] * 9), 10), ("1 : " + " ".join(["0"] * 10), 11), ("1 : " + " ".join(["0"] * 9) + " x", 11),
                           ("2 : " + "1 0 0 1 " * 4 + "0 0", None), ("2 : " + "1 0 0 1 " * 4 + "0 0 0", 20), ("1 : x", 2), (" 1 : 1", 0)):
            self.assertEqual(self.check_text(text), item)
        self.assertEqual(CROSS.read(text="1 : -1"), Vectors([[-1]]))

    def test_read_of_other_values(self):
        for value in no_integers() + [0, 7]:
            if not isinstance(value, str):
                check_raises(self, BadText(0, 0), Vectors.read, value)


if __name__ == "__main__":
    unittest.main()
