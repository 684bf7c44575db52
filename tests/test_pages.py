"""[c7] paths, [c8] made pages, [c12] sight."""

import unittest

from pagewake.pages import components_of, flat, make_page, shown, sight
from pagewake.worlds import first_world, page_of
from programs import Maker, at, box, cell, child, component, each, example, key, num, part, program_of, prop, show
from programs import store, text


def nodes_of(*contents, cells=(), store=()):
    """The nodes of a page whose only component has the contents."""
    return make_page(program_of(component(contents, cells)), store, (), ())[1]


class NodeTest(unittest.TestCase):
    def test_an_empty_page(self):
        self.assertEqual(make_page(program_of(component()), (), (), ()), ((), ()))

    def test_texts_and_shown_values(self):
        self.assertEqual(nodes_of(text("a 1"), show(num(0)), show(("plus", num(998), num(1))), text("a 1")), (
            ("text", (at(0),), "a 1"),
            ("text", (at(1),), "0"),
            ("text", (at(2),), "999"),
            ("text", (at(3),), "a 1"),
        ))

    def test_boxes(self):
        inner = box(text("x"), tag="i", action=0)
        self.assertEqual(nodes_of(box(inner, text("y"), tag="outer"), box(tag="e", action=3)), (
            ("box", (at(0),), "outer", (), None, (
                ("box", (at(0), at(0)), "i", (), 0, (("text", (at(0), at(0), at(0)), "x"),)),
                ("text", (at(0), at(1)), "y"),
            )),
            ("box", (at(1),), "e", (), 3, ()),
        ))

    def test_fields(self):
        self.assertEqual(nodes_of(("input", "f", 1), ("input", "g", 2), box(("input", "f", 0)), cells=(4, 5)), (
            ("input", (at(0),), "f", (), 1, 5),
            ("input", (at(1),), "g", (), 2, 0),
            ("box", (at(2),), "b", (), None, (("input", (at(2), at(0)), "f", (), 0, 4),)),
        ))

    def test_whens_and_eaches_dissolve_in_boxes_too(self):
        inner = each(num(2), ("when", ("index",), (text("y"),), (text("x"),)))
        self.assertEqual(nodes_of(box(inner), inner), (
            ("box", (at(0),), "b", (), None, (
                ("text", (at(0), at(0, 0, 1, 0, of=(0,))), "x"),
                ("text", (at(0), at(0, 0, 0, 0, of=(1,))), "y"),
            )),
            ("text", (at(1, 0, 1, 0, of=(0,)),), "x"),
            ("text", (at(1, 0, 0, 0, of=(1,)),), "y"),
        ))

    def test_the_index_goes_on_through_boxes(self):
        contents = each(num(3), box(show(("index",)), box(show(("index",)), each(num(1), show(("index",))))))
        first, second = box(show(("index",))), box(each(num(2), text("z")))
        nodes = nodes_of(contents, first, box(each(num(2), box(second, show(("index",))))))
        self.assertEqual(sight(nodes), (
            ("box", "b", (("text", "0"), ("box", "b", (("text", "0"), ("text", "0"))))),
            ("box", "b", (("text", "1"), ("box", "b", (("text", "1"), ("text", "0"))))),
            ("box", "b", (("text", "2"), ("box", "b", (("text", "2"), ("text", "0"))))),
            ("box", "b", (("text", "0"),)),
            ("box", "b", (
                ("box", "b", (("box", "b", (("text", "z"), ("text", "z"))), ("text", "0"))),
                ("box", "b", (("box", "b", (("text", "z"), ("text", "z"))), ("text", "1"))),
            )),
        ))

    def test_keys_within_boxes_have_the_index_around_the_box(self):
        nodes = nodes_of(each(num(2), box(box(key=("index",)))))
        self.assertEqual([node[5][0][1] for node in nodes], [
            (at(0, 0, of=(0,)), key(0, 0)),
            (at(0, 0, of=(1,)), key(1, 0)),
        ])

    def test_keys_stand_in_paths(self):
        nodes = nodes_of(box(text("x"), key=num(7)), each(num(2), box(text("y"), key=num(1))))
        self.assertEqual([node[1] for node in nodes], [(key(7, 0),), (key(1, 1, 0),), (at(1, 0, of=(1,)),)])
        self.assertEqual([node[5][0][1] for node in nodes], [
            (key(7, 0), at(0)), (key(1, 1, 0), at(0)), (at(1, 0, of=(1,)), at(0)),
        ])


class ChildTest(unittest.TestCase):
    def test_children_within_children(self):
        last = component((show(prop(0)), box(text("z"), action=1), ("input", "f", 0)), (9,))
        middle = component((box(child(2, ("plus", prop(1), num(1)))),))
        first = component((text("t"), child(1, num(3), num(4), key=num(5))))
        path = (key(5, 1), at(0), at(0))
        self.assertEqual(make_page(program_of(first, middle, last), (), (), ()), ((), (
            ("text", (at(0),), "t"),
            ("child", (key(5, 1),), 1, (3, 4), (), (
                ("box", (key(5, 1), at(0)), "b", (key(5, 1),), None, (
                    ("child", path, 2, (5,), (), (
                        ("text", path + (at(0),), "5"),
                        ("box", path + (at(1),), "b", path, 1, (("text", path + (at(1), at(0)), "z"),)),
                        ("input", path + (at(2),), "f", path, 0, 9),
                    )),
                )),
            )),
        )))

    def test_a_component_begins_with_index_0_and_without_the_props_around(self):
        inner = component((show(("index",)), show(prop(0)), show(prop(1)), show(cell(0))))
        first = component((each(num(2), child(1, ("index",))),), (6,))
        self.assertEqual(sight(make_page(program_of(first, inner), (), (), ())[1]), (
            ("text", "0"), ("text", "0"), ("text", "0"), ("text", "0"),
            ("text", "0"), ("text", "1"), ("text", "0"), ("text", "0"),
        ))

    def test_props_see_cells_props_store_and_index(self):
        last = component((show(prop(0)),))
        handed = ("plus", ("plus", cell(0), prop(0)), ("plus", store(0), ("index",)))
        middle = component((each(num(2), child(2, handed)),), (100,))
        program = program_of(component((child(1, num(20)),)), middle, last, store=(3,))
        self.assertEqual(sight(make_page(program, (3,), (), ())[1]), (("text", "123"), ("text", "124")))

    def test_children_in_repeats_have_paths_of_their_own(self):
        program = program_of(component((each(num(2), child(1)), child(1))), component((show(cell(0)),), (1,)))
        cells = (((at(0, 0, of=(1,)),), (8,)), ((at(1),), (9,)))
        self.assertEqual(make_page(program, (), cells, ())[1], (
            ("child", (at(0, 0, of=(0,)),), 1, (), (), (("text", (at(0, 0, of=(0,)), at(0)), "1"),)),
            ("child", (at(0, 0, of=(1,)),), 1, (), (), (("text", (at(0, 0, of=(1,)), at(0)), "8"),)),
            ("child", (at(1),), 1, (), (), (("text", (at(1), at(0)), "9"),)),
        ))


class ReadsTest(unittest.TestCase):
    def reads(self, *contents, store=(1, 1, 1, 1), inner=()):
        return make_page(program_of(component(contents), component(inner)), store, (), ())[0]

    def test_each_thing_that_may_be_looked_at(self):
        self.assertEqual(self.reads(show(store(2))), (2,))
        self.assertEqual(self.reads(("when", store(2), (), ())), (2,))
        self.assertEqual(self.reads(each(store(2))), (2,))
        self.assertEqual(self.reads(box(key=store(2))), (2,))
        self.assertEqual(self.reads(child(1, key=store(2))), (2,))
        self.assertEqual(self.reads(child(1, num(1), store(2))), (2,))
        self.assertEqual(self.reads(box(box(show(store(2))))), (2,))

    def test_they_rise_and_stand_once(self):
        contents = (show(store(3)), show(store(0)), box(show(store(3)), show(store(1))), show(store(0)))
        self.assertEqual(self.reads(*contents), (0, 1, 3))

    def test_only_what_is_looked_at(self):
        self.assertEqual(self.reads(show(("if", store(1), store(0), store(2)))), (0, 1))
        self.assertEqual(self.reads(("when", store(1), (), (show(store(0)),))), (1,))
        self.assertEqual(self.reads(each(num(0), show(store(0)))), ())
        self.assertEqual(self.reads(show(store(4)), text("x"), ("input", "f", 0)), ())

    def test_each_component_has_those_of_its_own_contents_alone(self):
        program = program_of(
            component((show(store(0)), box(child(1, store(2))))),
            component((show(store(1)), child(2))),
            component((show(store(0)), show(prop(0)))),
        )
        page = make_page(program, (5, 6, 7), (), ())
        self.assertEqual(components_of(page), (
            ((), 0, (), (0, 2)),
            ((at(1), at(0)), 1, (7,), (1,)),
            ((at(1), at(0), at(1)), 2, (), (0,)),
        ))


class PartTest(unittest.TestCase):
    def program(self):
        first = component((part(1), text("x"), box(part(0), tag="p", key=num(2))))
        return program_of(first, component((show(store(0)),)), component((child(1), ("input", "f", 0)), (4,)),
                          store=(5,), parts=(2, 1))

    def test_places_of_parts_that_are_not_present(self):
        self.assertEqual(make_page(self.program(), (5,), (), ()), ((), (
            ("place", (part(1),), 1),
            ("text", (at(1),), "x"),
            ("box", (key(2, 2),), "p", (), None, (("place", (key(2, 2), part(0)), 0),)),
        )))

    def test_a_part_in_a_box_that_is_present(self):
        path = (key(2, 2), part(0))
        self.assertEqual(make_page(self.program(), (5,), (), (0,))[1], (
            ("place", (part(1),), 1),
            ("text", (at(1),), "x"),
            ("box", (key(2, 2),), "p", (), None, (
                ("child", path, 2, (), (), (
                    ("child", path + (at(0),), 1, (), (0,), (("text", path + (at(0), at(0)), "5"),)),
                    ("input", path + (at(1),), "f", path, 0, 4),
                )),
            )),
        ))

    def test_all_parts_present_in_any_order(self):
        for present in ((0, 1), (1, 0)):
            page = make_page(self.program(), (5,), (), present)
            self.assertEqual(page[1][0], ("child", (part(1),), 1, (), (0,), (("text", (part(1), at(0)), "5"),)))
            self.assertEqual(components_of(page), (
                ((), 0, (), ()),
                ((part(1),), 1, (), (0,)),
                ((key(2, 2), part(0)), 2, (), ()),
                ((key(2, 2), part(0), at(0)), 1, (), (0,)),
            ))

    def test_a_part_keeps_its_own_cells(self):
        cells = (((key(2, 2), part(0)), (77,)),)
        self.assertIn(("input", "f", 77), sight(make_page(self.program(), (5,), cells, (0,))[1])[-1][2])


class CellsTest(unittest.TestCase):
    def program(self):
        first = component((show(cell(0)), child(1), each(cell(1), child(1, key=("index",)))), (1, 2))
        return program_of(first, component((show(cell(0)),), (3,)))

    def sight_of(self, cells):
        return "".join(node[1] for node in sight(make_page(self.program(), (), cells, ())[1]))

    def test_initial_values_without_cells(self):
        self.assertEqual(self.sight_of(()), "1333")

    def test_cells_in_any_order(self):
        cells = [((), (7, 3)), ((key(1, 2, 0),), (5,)), ((at(1),), (4,)), ((key(0, 2, 0),), (6,))]
        for turn in range(4):
            self.assertEqual(self.sight_of(tuple(cells[turn:] + cells[:turn])), "74653")

    def test_paths_that_the_page_does_not_have(self):
        cells = (((at(9),), (8,)), ((key(4, 2, 0),), (9,)), ((at(1),), (4,)), ((at(1), at(0)), (2,)))
        self.assertEqual(self.sight_of(cells), "1433")

    def test_cells_decide_what_there_is(self):
        self.assertEqual(self.sight_of((((), (1, 0)),)), "13")
        self.assertEqual(self.sight_of((((), (1, 5)), ((key(4, 2, 0),), (9,)))), "1333339")

    def test_the_store_is_the_one_that_is_given(self):
        program = program_of(component((show(store(0)),)), store=(1,))
        self.assertEqual(sight(make_page(program, (2,), (), ())[1]), (("text", "2"),))


class ComponentsTest(unittest.TestCase):
    def test_the_pages_own_is_first(self):
        self.assertEqual(components_of(make_page(program_of(component((show(store(0)),))), (1,), (), ())),
                         (((), 0, (), (0,)),))

    def test_in_the_order_of_the_page(self):
        program = program_of(
            component((child(2), box(text("x"), child(1, num(4)), box(child(2))), child(1))),
            component((child(2, key=num(6)),)),
            component((text("e"),)),
        )
        self.assertEqual(components_of(make_page(program, (), (), ())), (
            ((), 0, (), ()),
            ((at(0),), 2, (), ()),
            ((at(1), at(1)), 1, (4,), ()),
            ((at(1), at(1), key(6, 0)), 2, (), ()),
            ((at(1), at(2), at(0)), 2, (), ()),
            ((at(2),), 1, (), ()),
            ((at(2), key(6, 0)), 2, (), ()),
        ))


class ShownTest(unittest.TestCase):
    def page(self):
        program = program_of(
            component((child(1), box(text("x"), child(1), part(0), tag="o", action=2), part(1))),
            component((box(show(cell(0)), child(2), tag="i"), ("input", "f", 0)), (8,)),
            component((text("z"),)),
            parts=(2, 2),
        )
        return make_page(program, (), (), (1,))

    def inner(self, path):
        return (
            ("box", path + (at(0),), "i", path, None, (
                ("text", path + (at(0), at(0)), "8"),
                ("text", path + (at(0), at(1), at(0)), "z"),
            )),
            ("input", path + (at(1),), "f", path, 0, 8),
        )

    def test_children_are_dissolved_and_places_left_out(self):
        self.assertEqual(shown(self.page()[1]), self.inner((at(0),)) + (
            ("box", (at(1),), "o", (), 2, (("text", (at(1), at(0)), "x"),) + self.inner((at(1), at(1)))),
            ("text", (part(1), at(0)), "z"),
        ))

    def test_what_is_shown_is_shown_as_it_is(self):
        once = shown(self.page()[1])
        self.assertEqual(shown(once), once)

    def test_sight(self):
        inner = (("box", "i", (("text", "8"), ("text", "z"))), ("input", "f", 8))
        expected = inner + (("box", "o", (("text", "x"),) + inner), ("text", "z"))
        self.assertEqual(sight(self.page()[1]), expected)
        self.assertEqual(sight(shown(self.page()[1])), expected)

    def test_flat(self):
        self.assertEqual(flat(self.page()[1]), (
            ((at(0), at(0)), "box", "i"),
            ((at(0), at(0), at(0)), "text", "8"),
            ((at(0), at(0), at(1), at(0)), "text", "z"),
            ((at(0), at(1)), "input", "f"),
            ((at(1),), "box", "o"),
            ((at(1), at(0)), "text", "x"),
            ((at(1), at(1), at(0)), "box", "i"),
            ((at(1), at(1), at(0), at(0)), "text", "8"),
            ((at(1), at(1), at(0), at(1), at(0)), "text", "z"),
            ((at(1), at(1), at(1)), "input", "f"),
            ((part(1), at(0)), "text", "z"),
        ))

    def test_nothing(self):
        for nodes in ((), (("place", (part(0),), 0),), (("child", (at(0),), 1, (), (), ()),)):
            self.assertEqual((shown(nodes), sight(nodes), flat(nodes)), ((), (), ()))

    def test_the_documents_example(self):
        program = example()
        self.assertEqual(make_page(program, (5,), (), ()), ((), (
            ("box", (at(0),), "p", (), 0, (
                ("text", (at(0), at(0)), "n "), ("text", (at(0), at(1)), "0"),
            )),
            ("child", (at(1),), 1, (), (0,), (("text", (at(1), at(0)), "5"),)),
            ("place", (part(0),), 0),
        )))
        self.assertEqual(sight(make_page(program, (5,), (((), (1,)),), (0,))[1]), (
            ("box", "p", (("text", "n "), ("text", "1"))), ("text", "5"), ("text", "5"),
        ))


class ManyTest(unittest.TestCase):
    """What holds of every page."""

    def pages(self):
        for seed in range(150):
            maker = Maker(seed)
            program = maker.program()
            present = tuple(number for number in range(len(program[3])) if maker.chance.randrange(2))
            yield seed, program, page_of(program, first_world(program, present))

    def test_paths_are_unlike_and_begin_with_those_around(self):
        for seed, _, page in self.pages():
            with self.subTest(seed=seed):
                paths = [node[0] for node in flat(page[1])] + [one[0] for one in components_of(page)]
                self.assertEqual(len(paths), len(set(paths)))
                self.check_within(page[1], (), ())

    def check_within(self, nodes, around, owner):
        for node in nodes:
            self.assertEqual(node[1][:-1], around)
            if node[0] in ("box", "input"):
                self.assertEqual(node[3], owner)
            if node[0] == "box":
                self.check_within(node[5], node[1], owner)
            if node[0] == "child":
                self.check_within(node[5], node[1], node[1])

    def test_sight_and_flat_are_those_of_what_is_shown(self):
        for seed, _, page in self.pages():
            with self.subTest(seed=seed):
                self.assertEqual(sight(shown(page[1])), sight(page[1]))
                self.assertEqual(flat(shown(page[1])), flat(page[1]))

    def test_another_value_of_a_store_place_that_no_one_reads_changes_nothing(self):
        for seed, program, page in self.pages():
            read = {number for _, _, _, reads in components_of(page) for number in reads}
            present = tuple(node for node in range(len(program[3])) if self.has_part(page, node))
            for place in set(range(len(program[2]))) - read:
                other = tuple(500 if number == place else worth for number, worth in enumerate(program[2]))
                with self.subTest(seed=seed, place=place):
                    self.assertEqual(make_page(program, other, (), present), page)

    def has_part(self, page, number):
        return any(one[0][-1:] == (part(number),) for one in components_of(page))


if __name__ == "__main__":
    unittest.main()
