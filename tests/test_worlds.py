"""[c9] worlds: what settling keeps, what is new and what goes."""

import unittest

from pagewake.pages import components_of, make_page, sight
from pagewake.worlds import cells_at, first_world, page_of, settle
from programs import Maker, at, box, cell, child, component, each, example, key, num, part, program_of, show, store


def rows():
    """A page with as many rows as its cell 0 says, each a component with a key, and a part."""
    first = component((each(cell(0), child(1, key=("index",))), part(0), child(2)), (2, 8))
    return program_of(first, component((show(cell(0)),), (3,)), component((show(store(0)),)), store=(7,), parts=(1,))


class FirstWorldTest(unittest.TestCase):
    def test_initial_values(self):
        self.assertEqual(first_world(rows(), ()), ("world", (7,), (
            ((), (2, 8)),
            ((key(0, 0, 0),), (3,)),
            ((key(1, 0, 0),), (3,)),
            ((at(2),), ()),
        ), ()))

    def test_parts_that_are_present(self):
        self.assertEqual(first_world(rows(), (0,)), ("world", (7,), (
            ((), (2, 8)),
            ((key(0, 0, 0),), (3,)),
            ((key(1, 0, 0),), (3,)),
            ((part(0),), (3,)),
            ((at(2),), ()),
        ), (0,)))

    def test_a_page_without_anything(self):
        self.assertEqual(first_world(program_of(component()), ()), ("world", (), (((), ()),), ()))

    def test_the_documents_example(self):
        self.assertEqual(first_world(example(), ()), ("world", (5,), (((), (0,)), ((at(1),), ())), ()))


class SettleTest(unittest.TestCase):
    def test_those_that_are_told_are_kept_and_new_ones_are_initial(self):
        cells = (((), (3, 1)), ((key(1, 0, 0),), (9,)))
        self.assertEqual(settle(rows(), (4,), cells, ()), ("world", (4,), (
            ((), (3, 1)),
            ((key(0, 0, 0),), (3,)),
            ((key(1, 0, 0),), (9,)),
            ((key(2, 0, 0),), (3,)),
            ((at(2),), ()),
        ), ()))

    def test_others_go(self):
        cells = (((), (1, 0)), ((key(0, 0, 0),), (5,)), ((key(1, 0, 0),), (6,)), ((part(0),), (4,)), ((at(9),), (2,)))
        self.assertEqual(settle(rows(), (7,), cells, ()), ("world", (7,), (
            ((), (1, 0)), ((key(0, 0, 0),), (5,)), ((at(2),), ()),
        ), ()))

    def test_what_has_gone_is_initial_when_it_comes_again(self):
        program = rows()
        less = settle(program, (7,), (((), (0, 0)), ((key(0, 0, 0),), (5,))), ())
        more = settle(program, (7,), (((), (1, 0)),) + less[2][1:], ())
        self.assertEqual(cells_at(more, (key(0, 0, 0),)), (3,))

    def test_the_order_is_that_of_the_page(self):
        cells = [((at(2),), ()), ((key(1, 0, 0),), (9,)), ((key(0, 0, 0),), (8,)), ((), (2, 0)), ((part(0),), (4,))]
        for turn in range(5):
            world = settle(rows(), (7,), tuple(cells[turn:] + cells[:turn]), (0,))
            self.assertEqual(world[2], (
                ((), (2, 0)), ((key(0, 0, 0),), (8,)), ((key(1, 0, 0),), (9,)), ((part(0),), (4,)), ((at(2),), ()),
            ))

    def test_parts_rise(self):
        first = component((part(2), part(0), part(1)))
        program = program_of(first, component(), parts=(1, 1, 1))
        for present in ((2, 0), (0, 2)):
            self.assertEqual(settle(program, (), (), present), ("world", (), (
                ((), ()), ((part(2),), ()), ((part(0),), ()),
            ), (0, 2)))

    def test_components_within_components(self):
        first = component((box(child(1), key=num(4)),), (1,))
        program = program_of(first, component((child(2, key=cell(0)),), (6,)), component((), (2, 2)))
        inner = (key(4, 0), at(0))
        self.assertEqual(settle(program, (), (), ())[2], (((), (1,)), (inner, (6,)), (inner + (key(6, 0),), (2, 2))))
        cells = ((inner + (key(6, 0),), (9, 9)), (inner, (5,)))
        self.assertEqual(settle(program, (), cells, ())[2], (((), (1,)), (inner, (5,)), (inner + (key(5, 0),), (2, 2))))

    def test_a_settled_world_settles_to_itself(self):
        for seed in range(100):
            maker = Maker(seed)
            program = maker.program()
            world = first_world(program, tuple(range(len(program[3]))))
            others = tuple((path, tuple(worth + 1 for worth in values)) for path, values in world[2])
            for cells in (world[2], others):
                with self.subTest(seed=seed):
                    once = settle(program, world[1], cells, world[3][1:])
                    self.assertEqual(settle(program, once[1], once[2], once[3]), once)
                    paths = tuple(path for path, _, _, _ in components_of(page_of(program, once)))
                    self.assertEqual(tuple(path for path, _ in once[2]), paths)


class PageOfTest(unittest.TestCase):
    def test_it_is_the_page_with_the_worlds_store_cells_and_parts(self):
        program = rows()
        world = settle(program, (4,), (((), (1, 0)), ((key(0, 0, 0),), (9,)), ((part(0),), (5,))), (0,))
        self.assertEqual(page_of(program, world), make_page(program, (4,), world[2], (0,)))
        self.assertEqual(sight(page_of(program, world)[1]), (("text", "9"), ("text", "5"), ("text", "4")))

    def test_without_the_part(self):
        program = rows()
        self.assertEqual(sight(page_of(program, first_world(program, ()))[1]),
                         (("text", "3"), ("text", "3"), ("text", "7")))


class CellsAtTest(unittest.TestCase):
    def test_the_values(self):
        world = settle(rows(), (7,), (((), (2, 1)), ((key(1, 0, 0),), (9,))), ())
        self.assertEqual(cells_at(world, ()), (2, 1))
        self.assertEqual(cells_at(world, (key(0, 0, 0),)), (3,))
        self.assertEqual(cells_at(world, (key(1, 0, 0),)), (9,))

    def test_a_component_without_cells(self):
        self.assertEqual(cells_at(first_world(rows(), ()), (at(2),)), ())

    def test_none_where_there_is_no_component(self):
        world = first_world(rows(), ())
        for path in ((key(2, 0, 0),), (part(0),), (at(0),), (at(2), at(0))):
            self.assertIsNone(cells_at(world, path))


if __name__ == "__main__":
    unittest.main()
