"""[c6] names of nodes in a row, and the beginnings of paths."""

import unittest

from pagewake.names import lay_out, parts_of

SCOPE = ("scope", (2, 0), (7,), (3, 0, 1), 0)


def text(characters):
    return ("text", characters)


def num(number):
    return ("num", number)


def store(at):
    return ("store", at)


def at(address, repeats=()):
    return ("at", address, repeats)


def box(*contents, key=None, tag="b"):
    return ("box", tag, key, None, contents)


def child(key=None, props=()):
    return ("child", 1, key, props)


def row_of(contents, scope=SCOPE):
    return lay_out(contents, scope, [])


def names(contents, scope=SCOPE):
    return tuple(name for name, _, _ in row_of(contents, scope))


def indexes(contents, scope=SCOPE):
    return tuple(index for _, _, index in row_of(contents, scope))


def looked_at(contents, scope=SCOPE):
    looked = []
    lay_out(contents, scope, looked)
    return looked


class RowTest(unittest.TestCase):
    def test_no_contents(self):
        self.assertEqual(row_of(()), ())
        self.assertEqual(looked_at(()), [])

    def test_each_kind_of_node(self):
        contents = (
            text("a"), ("show", num(5)), box(text("x")), child(), ("part", 3), ("input", "f", 1),
        )
        self.assertEqual(row_of(contents), (
            (at((0,)), contents[0], 0),
            (at((1,)), contents[1], 0),
            (at((2,)), contents[2], 0),
            (at((3,)), contents[3], 0),
            (("part", 3), contents[4], 0),
            (at((5,)), contents[5], 0),
        ))

    def test_parts_have_their_number_whatever_their_place(self):
        self.assertEqual(names((("part", 1), text("x"), ("part", 0))), (("part", 1), at((1,)), ("part", 0)))

    def test_same_texts_are_told_apart(self):
        self.assertEqual(names((text("x"), text("x"))), (at((0,)), at((1,))))

    def test_what_is_in_boxes_is_not_in_the_row(self):
        inner = box(("each", num(3), (text("x"),)), ("when", num(1), (box(),), ()))
        self.assertEqual(row_of((inner, text("y"))), ((at((0,)), inner, 0), (at((1,)), text("y"), 0)))

    def test_a_boxs_contents_begin_anew(self):
        inner = box(text("x"), ("each", num(2), (text("y"),)), key=num(4))
        contents = (text("w"), ("each", num(1), (text("v"), inner)))
        self.assertEqual(names(contents), (at((0,)), at((1, 0), (0,)), ("key", (1, 1), 4)))
        self.assertEqual(names(inner[4]), (at((0,)), at((1, 0), (0,)), at((1, 0), (1,))))


class WhenTest(unittest.TestCase):
    def test_contents_where_it_is_not_0_else_others(self):
        for number, expected in (
            (0, (at((0, 1, 0)),)),
            (1, (at((0, 0, 0)), at((0, 0, 1)))),
            (2, (at((0, 0, 0)), at((0, 0, 1)))),
            (999, (at((0, 0, 0)), at((0, 0, 1)))),
        ):
            contents = (("when", num(number), (text("a"), text("b")), (text("c"),)),)
            self.assertEqual(names(contents), expected, number)

    def test_the_templates_are_those_of_the_side(self):
        contents = (
            ("when", ("cell", 0), (text("a"),), (text("b"),)),
            ("when", ("cell", 1), (text("c"),), (text("d"),)),
        )
        self.assertEqual(row_of(contents), ((at((0, 0, 0)), text("a"), 0), (at((1, 1, 0)), text("d"), 0)))

    def test_an_empty_side_gives_nothing(self):
        contents = (("when", num(0), (text("a"),), ()), ("when", num(1), (), (text("a"),)), text("b"))
        self.assertEqual(names(contents), (at((2,)),))

    def test_whens_within_one_another(self):
        inner = ("when", num(0), (text("a"),), (text("b"), text("c")))
        contents = (text("o"), ("when", num(5), (text("p"), inner), (text("q"),)))
        self.assertEqual(names(contents), (at((0,)), at((1, 0, 0)), at((1, 0, 1, 1, 0)), at((1, 0, 1, 1, 1))))

    def test_keys_and_parts_and_fields_within(self):
        contents = (("when", num(0), (), (box(key=num(8)), child(key=num(9)), ("input", "f", 0))),)
        self.assertEqual(names(contents), (("key", (0, 1, 0), 8), ("key", (0, 1, 1), 9), at((0, 1, 2))))


class EachTest(unittest.TestCase):
    def test_as_often_as_the_value_modulo_6(self):
        for number in (0, 1, 5, 6, 7, 11, 12, 999):
            expected = tuple(at((0, 0), (turn,)) for turn in range(number % 6))
            self.assertEqual(names((("each", num(number), (text("a"),)),)), expected, number)

    def test_all_contents_in_each_turn(self):
        contents = (("each", num(2), (text("a"), text("b"))), text("c"))
        self.assertEqual(row_of(contents), (
            (at((0, 0), (0,)), text("a"), 0),
            (at((0, 1), (0,)), text("b"), 0),
            (at((0, 0), (1,)), text("a"), 1),
            (at((0, 1), (1,)), text("b"), 1),
            (at((1,)), text("c"), 0),
        ))

    def test_eaches_within_one_another_tell_the_outermost_first(self):
        contents = (text("o"), ("each", num(2), (("each", num(3), (text("a"),)), text("b"))))
        self.assertEqual(names(contents), (
            at((0,)),
            at((1, 0, 0), (0, 0)), at((1, 0, 0), (0, 1)), at((1, 0, 0), (0, 2)), at((1, 1), (0,)),
            at((1, 0, 0), (1, 0)), at((1, 0, 0), (1, 1)), at((1, 0, 0), (1, 2)), at((1, 1), (1,)),
        ))
        self.assertEqual(indexes(contents), (0, 0, 1, 2, 0, 0, 1, 2, 1))

    def test_the_index_decides_within(self):
        contents = (("each", num(3), (("when", ("same", ("index",), num(1)), (text("a"),), (text("b"),)),)),)
        self.assertEqual(row_of(contents), (
            (at((0, 0, 1, 0), (0,)), text("b"), 0),
            (at((0, 0, 0, 0), (1,)), text("a"), 1),
            (at((0, 0, 1, 0), (2,)), text("b"), 2),
        ))

    def test_a_count_has_the_index_around_it(self):
        contents = (("each", num(3), (("each", ("index",), (text("a"),)),)),)
        self.assertEqual(names(contents), (
            at((0, 0, 0), (1, 0)), at((0, 0, 0), (2, 0)), at((0, 0, 0), (2, 1)),
        ))

    def test_each_within_when_and_when_within_each(self):
        contents = (("when", num(0), (), (("each", num(2), (("when", ("index",), (text("a"),), ()), text("b"))),)),)
        self.assertEqual(names(contents), (
            at((0, 1, 0, 1), (0,)), at((0, 1, 0, 0, 0, 0), (1,)), at((0, 1, 0, 1), (1,)),
        ))


class IndexTest(unittest.TestCase):
    def test_the_scopes_own_where_there_is_no_repeat_within(self):
        scope = ("scope", (), (), (), 4)
        contents = (text("a"), ("when", ("index",), (text("b"),), ()), ("each", num(2), (text("c"),)), box())
        self.assertEqual(indexes(contents, scope), (4, 4, 0, 1, 4))

    def test_conditions_counts_and_keys_have_the_scopes_own(self):
        scope = ("scope", (), (), (), 2)
        contents = (
            ("when", ("index",), (text("a"),), (text("b"),)),
            ("each", ("index",), (text("c"),)),
            box(key=("index",)),
            child(key=("index",)),
        )
        self.assertEqual(names(contents, scope), (
            at((0, 0, 0)), at((1, 0), (0,)), at((1, 0), (1,)), ("key", (2,), 2), ("key", (3,), 2),
        ))

    def test_the_scopes_own_is_no_repeat_of_the_row(self):
        self.assertEqual(names((text("a"),), ("scope", (), (), (), 3)), (at((0,)),))


class KeyTest(unittest.TestCase):
    def test_keys_of_boxes_and_children(self):
        contents = (box(key=num(7)), child(key=("cell", 0)), box(key=("prop", 0)), box(), child())
        self.assertEqual(names(contents), (
            ("key", (0,), 7), ("key", (1,), 2), ("key", (2,), 7), at((3,)), at((4,)),
        ))

    def test_the_key_0_is_a_key(self):
        self.assertEqual(names((box(key=num(0)), child(key=num(0)))), (("key", (0,), 0), ("key", (1,), 0)))

    def test_the_same_key_of_other_templates_is_another_name(self):
        self.assertEqual(names((box(key=num(1)), box(key=num(1)))), (("key", (0,), 1), ("key", (1,), 1)))

    def test_keys_in_repeats_have_no_numbers_of_repeats(self):
        contents = (("each", num(3), (box(key=("minus", num(9), ("index",))),)),)
        self.assertEqual(names(contents), (("key", (0, 0), 9), ("key", (0, 0), 8), ("key", (0, 0), 7)))
        self.assertEqual(indexes(contents), (0, 1, 2))

    def test_the_first_one_has_a_key_that_is_given_twice(self):
        for node in (box(key=num(4)), child(key=num(4))):
            self.assertEqual(names((("each", num(3), (node,)),)), (
                ("key", (0, 0), 4), at((0, 0), (1,)), at((0, 0), (2,)),
            ))

    def test_keys_given_twice_among_others(self):
        key = ("if", ("same", ("index",), num(2)), num(0), ("index",))
        contents = (("each", num(4), (text("x"), box(key=key))),)
        self.assertEqual(names(contents), (
            at((0, 0), (0,)), ("key", (0, 1), 0),
            at((0, 0), (1,)), ("key", (0, 1), 1),
            at((0, 0), (2,)), at((0, 1), (2,)),
            at((0, 0), (3,)), ("key", (0, 1), 3),
        ))

    def test_keys_given_twice_by_repeats_within_repeats(self):
        contents = (("each", num(2), (("each", num(2), (child(key=("index",)),)),)),)
        self.assertEqual(names(contents), (
            ("key", (0, 0, 0), 0), ("key", (0, 0, 0), 1), at((0, 0, 0), (1, 0)), at((0, 0, 0), (1, 1)),
        ))

    def test_a_row_has_its_own_keys(self):
        inner = box(box(key=num(1)), key=num(1))
        self.assertEqual(names((inner,)), (("key", (0,), 1),))
        self.assertEqual(names(inner[4]), (("key", (0,), 1),))

    def test_the_names_of_a_row_are_unlike(self):
        key = ("if", ("less", ("index",), num(2)), ("index",), num(1))
        contents = (("each", num(5), (box(key=key), ("each", num(5), (child(key=key), text("x"))), ("input", "f", 0))),)
        found = names(contents)
        self.assertEqual(len(found), 60)
        self.assertEqual(len(set(found)), 60)


class LookedTest(unittest.TestCase):
    def test_conditions_counts_and_keys(self):
        contents = (
            ("when", store(2), (box(key=store(0)),), (child(key=store(1)),)),
            ("each", store(0), (child(key=store(1)),)),
        )
        self.assertEqual(looked_at(contents), [2, 0, 0, 1, 1, 1])

    def test_only_the_side_that_is_given(self):
        both = ((box(key=store(0)),), (box(key=store(2)),))
        self.assertEqual(looked_at((("when", store(1), *both),)), [1, 2])
        self.assertEqual(looked_at((("when", store(0), *both),)), [0, 0])

    def test_in_the_order_of_the_text(self):
        contents = (
            box(key=store(2)),
            ("each", num(2), (("when", store(1), (), (child(key=store(0)),)), box(key=store(2)))),
            ("each", store(0), ()),
            child(key=("plus", store(1), store(0))),
        )
        self.assertEqual(looked_at(contents), [2, 1, 0, 2, 1, 0, 2, 0, 1, 0])

    def test_each_time_and_behind_what_is_there(self):
        looked = [9]
        lay_out((box(key=store(1)), box(key=store(1))), SCOPE, looked)
        self.assertEqual(looked, [9, 1, 1])

    def test_no_shown_values_props_or_contents_of_boxes(self):
        contents = (
            ("show", store(0)),
            child(props=(store(1),)),
            box(("show", store(2)), ("when", store(0), (), ()), box(key=store(1))),
        )
        self.assertEqual(looked_at(contents), [])

    def test_places_that_are_not_there(self):
        self.assertEqual(looked_at((("when", store(3), (), ()), ("each", store(4), ()), box(key=store(99)))), [])

    def test_a_key_that_is_given_twice_is_looked_at_as_well(self):
        self.assertEqual(looked_at((("each", num(3), (box(key=store(1)),)),)), [1, 1, 1])


class PartsOfTest(unittest.TestCase):
    def test_proper_beginnings_the_shortest_first(self):
        first, second, third = at((0,)), ("key", (1, 0), 5), ("part", 2)
        self.assertEqual(parts_of((first, second, third)), ((), (first,), (first, second)))
        self.assertEqual(parts_of((first, second)), ((), (first,)))
        self.assertEqual(parts_of((first,)), ((),))

    def test_the_empty_path_has_none(self):
        self.assertEqual(parts_of(()), ())


if __name__ == "__main__":
    unittest.main()
