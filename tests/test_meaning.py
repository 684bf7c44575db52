"""[w2] what an event and a field mean where they are shown."""

import unittest

from pagewake.deeds import field, meaning
from pagewake.pages import flat, make_page, shown
from pagewake.worlds import first_world, page_of
from programs import Maker, at, box, child, component, each, key, num, part, program_of, text


def shown_of(program, present=()):
    return shown(make_page(program, program[2], (), present)[1])


class MeaningTest(unittest.TestCase):
    def nodes(self):
        first = component((
            box(text("a"), box(text("b"), ("input", "f", 0), child(1)), tag="o", action=0),
            box(text("c"), box(text("d"), action=3), child(1)),
            text("e"),
            child(1),
        ), (1,))
        second = component((text("x"), box(text("y"), box(), action=2), ("input", "g", 0)))
        return shown_of(program_of(first, second))

    def test_the_node_itself(self):
        self.assertEqual(meaning(self.nodes(), (at(0),)), ((), 0))
        self.assertEqual(meaning(self.nodes(), (at(1), at(1))), ((), 3))

    def test_the_first_box_outwards(self):
        nodes = self.nodes()
        self.assertEqual(meaning(nodes, (at(0), at(0))), ((), 0))
        self.assertEqual(meaning(nodes, (at(0), at(1))), ((), 0))
        self.assertEqual(meaning(nodes, (at(0), at(1), at(0))), ((), 0))
        self.assertEqual(meaning(nodes, (at(0), at(1), at(1))), ((), 0))
        self.assertEqual(meaning(nodes, (at(1), at(1), at(0))), ((), 3))

    def test_the_innermost_one_counts(self):
        program = program_of(component((box(box(text("x"), box(text("y")), action=1), text("z"), action=2),)))
        nodes = shown_of(program)
        self.assertEqual(meaning(nodes, (at(0), at(0), at(0))), ((), 1))
        self.assertEqual(meaning(nodes, (at(0), at(0), at(1), at(0))), ((), 1))
        self.assertEqual(meaning(nodes, (at(0), at(1))), ((), 2))

    def test_the_owner_is_the_component_of_the_box(self):
        nodes = self.nodes()
        for path in ((at(3),), (at(1), at(2)), (at(0), at(1), at(2))):
            self.assertEqual(meaning(nodes, path + (at(1),)), (path, 2))
            self.assertEqual(meaning(nodes, path + (at(1), at(0))), (path, 2))
            self.assertEqual(meaning(nodes, path + (at(1), at(1))), (path, 2))

    def test_outwards_through_components(self):
        nodes = self.nodes()
        self.assertEqual(meaning(nodes, (at(0), at(1), at(2), at(0))), ((), 0))
        self.assertEqual(meaning(nodes, (at(0), at(1), at(2), at(2))), ((), 0))

    def test_no_box_with_an_action(self):
        nodes = self.nodes()
        for path in ((at(1),), (at(1), at(0)), (at(2),), (at(3), at(0)), (at(3), at(2)), (at(1), at(2), at(0))):
            self.assertIsNone(meaning(nodes, path), path)

    def test_no_node_at_the_path(self):
        nodes = self.nodes()
        components = ((), (at(3),), (at(0), at(1), at(2)))
        for path in components + ((at(0), at(9)), (at(9),), (at(0), at(0), at(0)), (key(0, 0),)):
            self.assertIsNone(meaning(nodes, path), path)
        self.assertIsNone(meaning((), (at(0),)))

    def test_an_action_that_is_not_there_is_meant_as_well(self):
        nodes = shown_of(program_of(component((box(text("x"), action=3),))))
        self.assertEqual(meaning(nodes, (at(0), at(0))), ((), 3))

    def test_within_a_part(self):
        first = component((box(part(0), key=num(6), action=1),))
        second = component((text("x"), each(num(2), box(text("y"), key=("index",), action=0))))
        nodes = shown_of(program_of(first, second, parts=(1,)), (0,))
        path = (key(6, 0), part(0))
        self.assertEqual(meaning(nodes, path + (at(0),)), ((), 1))
        self.assertEqual(meaning(nodes, path + (key(1, 1, 0), at(0))), (path, 0))

    def test_it_is_that_of_the_longest_beginning_of_a_box(self):
        for seed in range(80):
            program = Maker(seed).program()
            nodes = shown(page_of(program, first_world(program, tuple(range(len(program[3])))))[1])
            boxes = dict(self.boxes(nodes))
            for path, _, _ in flat(nodes):
                around = [path[:many] for many in range(len(path), 0, -1) if boxes.get(path[:many])]
                with self.subTest(seed=seed, path=path):
                    self.assertEqual(meaning(nodes, path), boxes[around[0]] if around else None)

    def boxes(self, nodes):
        for node in nodes:
            if node[0] == "box":
                yield node[1], None if node[4] is None else (node[3], node[4])
                yield from self.boxes(node[5])


class FieldTest(unittest.TestCase):
    def nodes(self):
        first = component((("input", "f", 1), box(box(("input", "g", 0)), child(1)), text("x"), child(1)), (1, 2))
        return shown_of(program_of(first, component((box(("input", "h", 3)), ("input", "i", 0)))))

    def test_its_owner_and_cell(self):
        nodes = self.nodes()
        self.assertEqual(field(nodes, (at(0),)), ((), 1))
        self.assertEqual(field(nodes, (at(1), at(0), at(0))), ((), 0))

    def test_in_other_components(self):
        nodes = self.nodes()
        for path in ((at(3),), (at(1), at(1))):
            self.assertEqual(field(nodes, path + (at(0), at(0))), (path, 3))
            self.assertEqual(field(nodes, path + (at(1),)), (path, 0))

    def test_none_where_there_is_no_field(self):
        nodes = self.nodes()
        for path in ((), (at(1),), (at(1), at(0)), (at(2),), (at(3),), (at(3), at(0)), (at(9),), (at(0), at(0))):
            self.assertIsNone(field(nodes, path), path)
        self.assertIsNone(field((), (at(0),)))


if __name__ == "__main__":
    unittest.main()
