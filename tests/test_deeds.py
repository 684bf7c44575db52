"""[c10] deeds, [c11] the plain run, [d1] the values of steps."""

import unittest

from pagewake.deeds import do, done_by, run, worlds
from pagewake.pages import components_of, sight
from pagewake.worlds import cells_at, first_world, page_of, settle
from programs import Maker, at, box, cell, child, component, each, example, key, num, part, program_of, prop, show
from programs import store, text

CHILD = (at(0),)


def plus(left, right):
    return ("plus", left, right)


def alone(*steps, cells=(1, 2, 3), store=(10, 20)):
    """A page of one component with the one action."""
    return program_of(component((), cells, (steps,)), store=store)


def behind(program, *deeds, present=()):
    return run(program, present, deeds)


class SetTest(unittest.TestCase):
    def after(self, *steps):
        world = behind(alone(*steps), ("act", (), 0))
        return cells_at(world, ()), world[1]

    def test_set(self):
        self.assertEqual(self.after(("set", 0, num(7))), ((7, 2, 3), (10, 20)))
        self.assertEqual(self.after(("set", 2, num(0))), ((1, 2, 0), (10, 20)))

    def test_put(self):
        self.assertEqual(self.after(("put", 0, num(7))), ((1, 2, 3), (7, 20)))
        self.assertEqual(self.after(("put", 1, num(0))), ((1, 2, 3), (10, 0)))

    def test_cells_and_places_that_are_not_there(self):
        for step in (("set", 3, num(7)), ("set", 99, num(7)), ("put", 2, num(7)), ("put", 99, num(7))):
            self.assertEqual(self.after(step), ((1, 2, 3), (10, 20)), step)
        self.assertEqual(self.after(("set", 3, num(7)), ("put", 2, num(7)), ("set", 0, num(6))), ((6, 2, 3), (10, 20)))

    def test_neither_cells_nor_store(self):
        program = alone(("set", 0, num(7)), ("put", 0, num(7)), cells=(), store=())
        self.assertEqual(behind(program, ("act", (), 0)), first_world(program, ()))

    def test_values_are_modulo_1000(self):
        self.assertEqual(self.after(("set", 0, ("minus", num(0), num(1)))), ((999, 2, 3), (10, 20)))
        self.assertEqual(self.after(("put", 0, plus(num(999), store(0)))), ((1, 2, 3), (9, 20)))

    def test_no_steps(self):
        self.assertEqual(self.after(), ((1, 2, 3), (10, 20)))

    def test_later_steps_see_what_earlier_ones_did(self):
        self.assertEqual(self.after(
            ("set", 0, num(5)), ("set", 1, plus(cell(0), num(1))), ("set", 0, plus(cell(1), cell(1))),
        ), ((12, 6, 3), (10, 20)))
        self.assertEqual(self.after(
            ("put", 1, plus(store(0), num(1))), ("put", 0, store(1)), ("set", 2, plus(store(0), store(1))),
        ), ((1, 2, 22), (11, 11)))

    def test_earlier_steps_do_not_see_what_later_ones_do(self):
        self.assertEqual(self.after(("set", 1, cell(0)), ("set", 0, num(9))), ((9, 1, 3), (10, 20)))

    def test_what_is_not_there_gives_0(self):
        steps = (("set", 0, cell(9)), ("set", 1, store(9)), ("set", 2, prop(0)))
        self.assertEqual(self.after(*steps), ((0, 0, 0), (10, 20)))

    def test_the_index_is_0(self):
        program = program_of(
            component((each(num(3), box(child(1, key=("index",)), key=("index",))),)),
            component((each(num(2), box(text("x"), action=0)),), (5,), ((("set", 0, plus(("index",), num(1))),),)),
        )
        path = (key(2, 0, 0), key(2, 0))
        self.assertEqual(cells_at(behind(program, ("act", path, 0)), path), (1,))

    def test_each_action(self):
        actions = ((("set", 0, num(5)),), (("set", 0, num(6)),), (("set", 1, num(7)),))
        program = program_of(component((), (1, 2), actions))
        found = [cells_at(behind(program, ("act", (), number)), ()) for number in range(3)]
        self.assertEqual(found, [(5, 2), (6, 2), (1, 7)])

    def test_nothing_for_an_action_that_is_not_there(self):
        program = alone(("set", 0, num(7)))
        for action in (1, 2, 99):
            self.assertEqual(behind(program, ("act", (), action)), first_world(program, ()))

    def test_nothing_for_a_path_without_a_component(self):
        program = program_of(component((box(text("x")), each(cell(0), child(1))), (1,), ((("set", 0, num(7)),),)),
                             component((), (2,), ((("set", 0, num(8)), ("put", 0, num(9))),)), store=(4,))
        for path in ((at(0),), (at(0), at(0)), (at(1, 0, of=(1,)),), (at(2),), (part(0),)):
            self.assertEqual(behind(program, ("act", path, 0)), first_world(program, ()), path)
        self.assertEqual(behind(program, ("act", (at(1, 0, of=(0,)),), 0))[1], (9,))


class PropsTest(unittest.TestCase):
    def program(self):
        """A child whose prop 0 is the cell 0 of the page's own and whose prop 1 is the store place 0."""
        inner = component((show(cell(0)),), (1, 1), (
            (("put", 0, num(50)), ("up", 0), ("set", 0, prop(0)), ("set", 1, prop(1))),
            (("set", 0, plus(prop(0), prop(1))),),
        ))
        first = component((child(1, cell(0), store(0)),), (3,), ((("set", 0, num(60)),),))
        return program_of(first, inner, store=(4,))

    def test_steps_see_their_own_props(self):
        self.assertEqual(cells_at(behind(self.program(), ("act", CHILD, 1)), CHILD), (7, 1))

    def test_props_are_those_of_the_page_before_the_deed(self):
        world = behind(self.program(), ("act", CHILD, 0))
        self.assertEqual(world, ("world", (50,), (((), (60,)), (CHILD, (3, 4))), ()))

    def test_the_next_deed_has_those_of_the_page_behind(self):
        world = behind(self.program(), ("act", CHILD, 0), ("act", CHILD, 1))
        self.assertEqual(cells_at(world, CHILD), (110, 4))

    def test_no_props_beyond_those_handed(self):
        action = (("set", 0, prop(1)), ("set", 1, prop(0)))
        program = program_of(component((child(1, num(5)),)), component((), (1, 1), (action,)))
        self.assertEqual(cells_at(behind(program, ("act", CHILD, 0)), CHILD), (0, 5))

    def test_a_part_has_no_props(self):
        program = program_of(component((part(0),)), component((), (1,), ((("set", 0, prop(0)),),)), parts=(1,))
        world = behind(program, ("act", (part(0),), 0), present=(0,))
        self.assertEqual(cells_at(world, (part(0),)), (0,))


class UpTest(unittest.TestCase):
    def program(self, up=1):
        """Three components within one another, the first two with boxes around what is in them."""
        first = component((box(box(child(1, num(5)))),), (1,), (
            (("set", 0, plus(cell(0), num(100))),),
            (("set", 0, plus(cell(0), prop(0))), ("put", 0, plus(store(0), num(1)))),
        ))
        second = component((box(child(2, num(7))),), (2,), (
            (("set", 0, plus(cell(0), prop(0))),),
            (("set", 0, store(0)), ("up", 1), ("set", 0, plus(cell(0), store(0)))),
        ))
        third = component((), (3,), (
            (("up", 0), ("set", 0, plus(cell(0), prop(0))), ("up", 0)),
            (("put", 0, num(20)), ("up", up), ("set", 0, store(0))),
        ))
        return program_of(first, second, third, store=(10,))

    def test_the_component_around_is_the_next_one(self):
        second = (at(0), at(0), at(0))
        third = second + (at(0), at(0))
        world = behind(self.program(), ("act", third, 0))
        self.assertEqual(world, ("world", (10,), (((), (1,)), (second, (12,)), (third, (10,))), ()))

    def test_up_over_several_components(self):
        second = (at(0), at(0), at(0))
        third = second + (at(0), at(0))
        world = behind(self.program(), ("act", third, 1))
        self.assertEqual(world, ("world", (21,), (((), (1,)), (second, (41,)), (third, (21,))), ()))

    def test_nothing_if_the_component_around_has_no_such_action(self):
        third = (at(0), at(0), at(0), at(0), at(0))
        for up in (2, 99):
            world = behind(self.program(up), ("act", third, 1))
            self.assertEqual((world[1], [values for _, values in world[2]]), ((20,), [(1,), (2,), (20,)]))

    def test_nothing_above_the_pages_own(self):
        program = program_of(component((), (1,), ((("up", 0), ("set", 0, plus(cell(0), num(1))), ("up", 1)),)))
        self.assertEqual(cells_at(behind(program, ("act", (), 0)), ()), (2,))

    def test_a_repeated_child_goes_up_with_its_own_props(self):
        inner = component((), (0,), ((("set", 0, prop(0)), ("up", 0)),))
        more = (("set", 0, plus(cell(0), num(1))),)
        first = component((each(num(3), child(1, plus(("index",), num(5)))),), (1,), (more,))
        path = (at(0, 0, of=(1,)),)
        world = behind(program_of(first, inner), ("act", path, 0))
        self.assertEqual([values for _, values in world[2]], [(2,), (0,), (6,), (0,)])

    def test_from_a_part(self):
        program = program_of(
            component((box(part(0), key=num(4)),), (1,), ((("set", 0, num(9)),),)),
            component((), (2,), ((("up", 0), ("set", 0, num(8))),)),
            parts=(1,),
        )
        path = (key(4, 0), part(0))
        self.assertEqual(behind(program, ("act", path, 0), present=(0,))[2], (((), (9,)), (path, (8,))))
        self.assertEqual(behind(program, ("act", path, 0)), first_world(program, ()))


class EnterTest(unittest.TestCase):
    def program(self):
        first = component((("input", "f", 1), child(1), box(text("x"))), (1, 2))
        return program_of(first, component((), (3,)), store=(4,))

    def test_the_cell_gets_the_value(self):
        for cell_number, expected in ((0, (9, 2)), (1, (1, 9))):
            world = behind(self.program(), ("enter", (), cell_number, 9))
            self.assertEqual(world, ("world", (4,), (((), expected), ((at(1),), (3,))), ()))

    def test_in_another_component(self):
        world = behind(self.program(), ("enter", (at(1),), 0, 0))
        self.assertEqual(world, ("world", (4,), (((), (1, 2)), ((at(1),), (0,))), ()))

    def test_nothing_without_such_a_cell_or_component(self):
        program = self.program()
        for path, number in (((), 2), ((), 99), ((at(1),), 1), ((at(0),), 0), ((at(2),), 0), ((at(5),), 0)):
            self.assertEqual(behind(program, ("enter", path, number, 9)), first_world(program, ()), (path, number))


class PartTest(unittest.TestCase):
    def program(self):
        return program_of(component((part(1), part(0), part(2))), component((), (5,)), parts=(1, 1, 1))

    def test_a_part_is_present_from_then_on(self):
        worlds_found = worlds(self.program(), (), (("part", 2), ("part", 0), ("act", (), 0), ("part", 1)))
        self.assertEqual([world[3] for world in worlds_found], [(), (2,), (0, 2), (0, 2), (0, 1, 2)])
        self.assertEqual([path for path, _ in worlds_found[2][2]], [(), (part(0),), (part(2),)])
        self.assertEqual([path for path, _ in worlds_found[4][2]], [(), (part(1),), (part(0),), (part(2),)])

    def test_nothing_changes_if_it_was(self):
        world = behind(self.program(), ("enter", (part(1),), 0, 8), present=(1,))
        self.assertEqual(do(self.program(), world, ("part", 1)), world)

    def test_the_others_keep_their_values(self):
        world = behind(self.program(), ("enter", (part(1),), 0, 8), ("part", 0), present=(1,))
        self.assertEqual(world, ("world", (), (((), ()), ((part(1),), (8,)), ((part(0),), (5,))), (0, 1)))


class SettledTest(unittest.TestCase):
    def program(self):
        """A page that shows as many children as its cell says."""
        actions = tuple((("set", 0, num(number)),) for number in range(4))
        nine = ("set", 0, num(9))
        inner = component((show(cell(0)),), (6,), ((nine, ("up", 1)), (("up", 0), nine, ("up", 2))))
        return program_of(component((each(cell(0), child(1)),), (2,), actions), inner)

    def path(self, number):
        return (at(0, 0, of=(number,)),)

    def test_new_components_come_and_others_go_behind_each_deed(self):
        deeds = (("enter", self.path(1), 0, 7), ("act", (), 3), ("act", (), 1), ("act", (), 2))
        found = [[values[0] for _, values in world[2]] for world in worlds(self.program(), (), deeds)]
        self.assertEqual(found, [[2, 6, 6], [2, 6, 7], [3, 6, 7, 6], [1, 6], [2, 6, 6]])

    def test_a_component_may_go_by_its_own_act(self):
        world = behind(self.program(), ("act", self.path(1), 0))
        self.assertEqual(world[2], (((), (1,)), (self.path(0), (6,))))

    def test_within_one_deed_none_goes(self):
        world = behind(self.program(), ("act", self.path(1), 1))
        self.assertEqual([values for _, values in world[2]], [(2,), (6,), (9,)])

    def test_a_new_component_does_what_the_page_before_did_not_have(self):
        program = self.program()
        world = behind(program, ("act", self.path(2), 0), ("act", (), 3), ("enter", self.path(2), 0, 4))
        self.assertEqual([values[0] for _, values in world[2]], [3, 6, 6, 4])


class RunTest(unittest.TestCase):
    def test_without_deeds(self):
        program = example()
        for present in ((), (0,)):
            self.assertEqual(run(program, present, ()), first_world(program, present))
            self.assertEqual(worlds(program, present, ()), (first_world(program, present),))

    def test_the_documents_example(self):
        program = example()
        deeds = (("act", (), 0), ("part", 0))
        found = worlds(program, (), deeds)
        self.assertEqual(found[1], ("world", (5,), (((), (1,)), ((at(1),), ())), ()))
        self.assertEqual(found[2], ("world", (5,), (((), (1,)), ((at(1),), ()), ((part(0),), ())), (0,)))
        self.assertEqual([sight(page_of(program, world)[1])[0] for world in found], [
            ("box", "p", (("text", "n "), ("text", number))) for number in "011"
        ])

    def test_the_order_of_the_deeds_counts(self):
        program = program_of(component((), (1,), ((("set", 0, plus(cell(0), cell(0))),),)))
        double, five = ("act", (), 0), ("enter", (), 0, 5)
        self.assertEqual(cells_at(run(program, (), (double, five)), ()), (5,))
        self.assertEqual(cells_at(run(program, (), (five, double)), ()), (10,))

    def test_deeds_do_not_change_the_worlds_before(self):
        program = example()
        world = first_world(program, ())
        do(program, world, ("act", (), 0))
        do(program, world, ("part", 0))
        self.assertEqual(world, first_world(program, ()))

    def test_many_runs(self):
        for seed in range(120):
            maker = Maker(seed)
            program = maker.program()
            world = first_world(program, ())
            deeds, found = [], [world]
            for _ in range(12):
                deed = maker.deed(program, [path for path, _ in world[2]], [(path, 0) for path, _ in world[2]])
                deeds.append(deed)
                world = do(program, world, deed)
                found.append(world)
            with self.subTest(seed=seed):
                self.assertEqual(worlds(program, (), tuple(deeds)), tuple(found))
                self.assertEqual(run(program, (), tuple(deeds)), world)
                for one in found:
                    self.assertEqual(settle(program, *one[1:]), one)


class DoneByTest(unittest.TestCase):
    def program(self):
        first = component((child(2), child(1)), (1,), ((("set", 0, num(9)),), ()))
        second = component((child(2),), (2,), ((("up", 0),), (("set", 0, num(9)),), (("up", 7),)))
        third = component((), (3,), ((("up", 0),), (("up", 2), ("put", 0, num(1))), (("up", 1), ("up", 1), ("up", 0))))
        return program_of(first, second, third, store=(4,))

    def done(self, path, action):
        program = self.program()
        return done_by(program, first_world(program, ()), ("act", path, action))

    def test_the_component_whose_action_it_is(self):
        self.assertEqual(self.done((), 0), (0,))
        self.assertEqual(self.done((at(1),), 1), (1,))

    def test_an_action_without_steps_is_done(self):
        self.assertEqual(self.done((), 1), (0,))

    def test_those_of_up(self):
        self.assertEqual(self.done((at(1),), 0), (0, 1))
        self.assertEqual(self.done((at(1), at(0)), 0), (0, 1, 2))
        self.assertEqual(self.done((at(0),), 0), (0, 2))

    def test_each_once(self):
        self.assertEqual(self.done((at(1), at(0)), 2), (0, 1, 2))

    def test_up_to_none(self):
        self.assertEqual(self.done((at(1),), 2), (1,))
        self.assertEqual(self.done((at(1), at(0)), 1), (1, 2))
        self.assertEqual(self.done((at(0),), 1), (2,))

    def test_nothing_is_done(self):
        for path, action in (((), 2), ((at(1),), 3), ((at(2),), 0), ((at(0), at(0)), 0)):
            self.assertEqual(self.done(path, action), ())

    def test_other_deeds(self):
        program = program_of(component((part(0),), (1,), ((("set", 0, num(2)),),)), component(), parts=(1,))
        world = first_world(program, ())
        for deed in (("part", 0), ("enter", (), 0, 5), ("enter", (), 9, 5)):
            self.assertEqual(done_by(program, world, deed), ())

    def test_in_the_world_that_is_given(self):
        program = program_of(component((each(cell(0), child(1)),), (0,)), component((), (), ((),)))
        path = (at(0, 0, of=(0,)),)
        self.assertEqual(done_by(program, first_world(program, ()), ("act", path, 0)), ())
        self.assertEqual(done_by(program, settle(program, (), (((), (1,)),), ()), ("act", path, 0)), (1,))

    def test_what_it_does_not_name_keeps_its_cells(self):
        for seed in range(80):
            maker = Maker(seed)
            program = maker.program()
            world = first_world(program, tuple(range(len(program[3]))))
            numbers = {path: number for path, number, _, _ in components_of(page_of(program, world))}
            for path in numbers:
                for action in range(3):
                    deed = ("act", path, action)
                    names = done_by(program, world, deed)
                    after = do(program, world, deed)
                    changed = {numbers[own] for own, values in world[2] if cells_at(after, own) not in (None, values)}
                    with self.subTest(seed=seed, deed=deed):
                        self.assertLessEqual(changed, set(names))
                        self.assertEqual(names, tuple(sorted(set(names))))
                        if not names:
                            self.assertEqual(after, world)


if __name__ == "__main__":
    unittest.main()
