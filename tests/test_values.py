"""[c1] values and [c2] expressions."""

import unittest

from pagewake.values import value

SCOPE = ("scope", (11, 12, 13), (21, 22), (31, 32, 0, 34), 4)
BARE = ("scope", (), (), (), 0)


def num(number):
    return ("num", number)


def store(at):
    return ("store", at)


def value_and_looked(expression, scope=SCOPE):
    looked = []
    return value(expression, scope, looked), looked


class ValuesTest(unittest.TestCase):
    def assert_gives(self, expression, expected, looked=(), scope=SCOPE):
        found, places = value_and_looked(expression, scope)
        self.assertEqual(found, expected, expression)
        self.assertIs(type(found), int, expression)
        self.assertEqual(places, list(looked), expression)

    def test_num(self):
        for number in (0, 1, 500, 999):
            self.assert_gives(num(number), number)

    def test_cells_props_and_store_places_that_are_there(self):
        for at, expected in enumerate(SCOPE[1]):
            self.assert_gives(("cell", at), expected)
        for at, expected in enumerate(SCOPE[2]):
            self.assert_gives(("prop", at), expected)
        for at, expected in enumerate(SCOPE[3]):
            self.assert_gives(store(at), expected, [at])

    def test_what_is_not_there_gives_0(self):
        for at in (3, 4, 100):
            self.assert_gives(("cell", at), 0)
        for at in (2, 3, 100):
            self.assert_gives(("prop", at), 0)
        for at in (4, 5, 100):
            self.assert_gives(store(at), 0)

    def test_nothing_is_there_in_empty_rows(self):
        for kind in ("cell", "prop", "store"):
            self.assert_gives((kind, 0), 0, [], BARE)

    def test_no_number_below_0_is_there(self):
        for kind in ("cell", "prop", "store"):
            self.assert_gives((kind, -1), 0)

    def test_index_is_that_of_the_scope(self):
        self.assert_gives(("index",), 4)
        self.assert_gives(("index",), 0, [], BARE)
        self.assert_gives(("plus", ("index",), num(1)), 5)


class SignsTest(unittest.TestCase):
    def assert_number(self, expression, expected):
        found, looked = value_and_looked(expression)
        self.assertEqual(found, expected, expression)
        self.assertIs(type(found), int, expression)
        self.assertEqual(looked, [], expression)

    def test_plus(self):
        self.assert_number(("plus", num(2), num(3)), 5)
        self.assert_number(("plus", num(0), num(0)), 0)
        self.assert_number(("plus", ("cell", 1), ("prop", 1)), 34)

    def test_plus_is_modulo_1000(self):
        self.assert_number(("plus", num(998), num(1)), 999)
        self.assert_number(("plus", num(999), num(1)), 0)
        self.assert_number(("plus", num(500), num(500)), 0)
        self.assert_number(("plus", num(999), num(999)), 998)

    def test_minus(self):
        self.assert_number(("minus", num(7), num(3)), 4)
        self.assert_number(("minus", num(7), num(7)), 0)
        self.assert_number(("minus", num(999), num(0)), 999)

    def test_minus_is_modulo_1000(self):
        self.assert_number(("minus", num(0), num(1)), 999)
        self.assert_number(("minus", num(3), num(7)), 996)
        self.assert_number(("minus", num(0), num(999)), 1)

    def test_all_sums_and_differences_are_values(self):
        for left in range(0, 1000, 37):
            for right in range(0, 1000, 27):
                self.assert_number(("plus", num(left), num(right)), (left + right) % 1000)
                self.assert_number(("minus", num(left), num(right)), (left - right) % 1000)

    def test_same(self):
        self.assert_number(("same", num(5), num(5)), 1)
        self.assert_number(("same", num(0), num(0)), 1)
        self.assert_number(("same", num(5), num(6)), 0)
        self.assert_number(("same", num(6), num(5)), 0)

    def test_less(self):
        self.assert_number(("less", num(4), num(5)), 1)
        self.assert_number(("less", num(0), num(999)), 1)
        self.assert_number(("less", num(5), num(5)), 0)
        self.assert_number(("less", num(6), num(5)), 0)

    def test_they_take_what_others_give(self):
        inner = ("plus", num(999), num(2))
        self.assert_number(("same", inner, num(1)), 1)
        self.assert_number(("less", inner, num(2)), 1)
        self.assert_number(("minus", ("same", num(3), num(3)), ("less", num(3), num(4))), 0)
        self.assert_number(("plus", ("minus", ("plus", num(999), num(9)), num(9)), num(3)), 2)

    def test_somewhat_more_within_one_another_than_the_bound(self):
        expression = num(0)
        for _ in range(12):
            expression = ("plus", expression, num(100))
        self.assert_number(expression, 200)


class IfTest(unittest.TestCase):
    def test_it_gives_the_one_or_the_other(self):
        for number in (1, 2, 999):
            self.assertEqual(value_and_looked(("if", num(number), num(7), num(8))), (7, []))
        self.assertEqual(value_and_looked(("if", num(0), num(7), num(8))), (8, []))

    def test_only_the_chosen_one_is_looked_at(self):
        self.assertEqual(value_and_looked(("if", num(1), store(0), store(1))), (31, [0]))
        self.assertEqual(value_and_looked(("if", num(0), store(0), store(1))), (32, [1]))

    def test_the_condition_is_looked_at_first(self):
        self.assertEqual(value_and_looked(("if", store(3), store(0), store(1))), (31, [3, 0]))
        self.assertEqual(value_and_looked(("if", store(2), store(0), store(1))), (32, [2, 1]))

    def test_the_condition_may_have_any_kind(self):
        self.assertEqual(value_and_looked(("if", ("less", num(2), num(1)), num(7), num(8))), (8, []))
        self.assertEqual(value_and_looked(("if", ("minus", num(1), num(2)), num(7), num(8))), (7, []))
        self.assertEqual(value_and_looked(("if", ("prop", 9), num(7), num(8))), (8, []))

    def test_ifs_within_one_another(self):
        inner = ("if", store(2), store(0), store(1))
        self.assertEqual(value_and_looked(("if", inner, inner, store(0))), (32, [2, 1, 2, 1]))
        self.assertEqual(value_and_looked(("if", num(0), inner, ("if", num(5), store(3), inner))), (34, [3]))


class LookedTest(unittest.TestCase):
    def test_left_before_right_for_each_sign(self):
        for sign in ("plus", "minus", "same", "less"):
            self.assertEqual(value_and_looked((sign, store(1), store(0)))[1], [1, 0], sign)
            self.assertEqual(value_and_looked((sign, store(0), store(1)))[1], [0, 1], sign)

    def test_each_time(self):
        both = ("plus", store(3), store(3))
        self.assertEqual(value_and_looked(both), (68, [3, 3]))
        self.assertEqual(value_and_looked(("same", both, both)), (1, [3, 3, 3, 3]))

    def test_in_order_within_one_another(self):
        expression = ("plus", ("minus", store(3), store(0)), ("less", store(1), store(3)))
        self.assertEqual(value_and_looked(expression), (4, [3, 0, 1, 3]))

    def test_those_that_are_not_there_are_not_added(self):
        self.assertEqual(value_and_looked(("plus", store(4), store(1))), (32, [1]))
        self.assertEqual(value_and_looked(("plus", store(1), store(99))), (32, [1]))
        self.assertEqual(value_and_looked(("if", store(4), store(0), store(5))), (0, []))

    def test_places_with_the_value_0_are_added(self):
        self.assertEqual(value_and_looked(store(2)), (0, [2]))

    def test_they_are_added_behind_what_is_there(self):
        looked = [5, 1]
        value(("plus", store(1), store(0)), SCOPE, looked)
        value(store(3), SCOPE, looked)
        value(("cell", 0), SCOPE, looked)
        self.assertEqual(looked, [5, 1, 1, 0, 3])

    def test_cells_and_props_are_no_store_places(self):
        self.assertEqual(value_and_looked(("plus", ("cell", 0), ("prop", 0))), (32, []))


if __name__ == "__main__":
    unittest.main()
