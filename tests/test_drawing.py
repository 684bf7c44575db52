"""[w5] which components are needed, why, and how many calls each has; [w7] the numbers of paths."""

import itertools
import random
import unittest

from pagewake.deeds import run, worlds
from pagewake.drawing import Numbers, needs
from pagewake.pages import components_of
from pagewake.worlds import cells_at, first_world, page_of
from programs import Maker, at, box, cell, child, component, each, example, index, key, num, part, program_of, prop
from programs import show, store, text

NEW = (("new",),)
CELLS = ("cells",)
PROPS = ("props",)


def between(program, earlier, later, asleep=(), first=()):
    """What is needed from the world behind the earlier deeds to that behind the later ones."""
    return needs(program, first, run(program, first, earlier), run(program, first, later), asleep)


class ReasonsTest(unittest.TestCase):
    def program(self):
        """Component 0 has cells 0 and 1, hands cell 1 to a child, which has cells and reads store places 1 and 2."""
        actions = (
            (("set", 0, num(50)),),
            (("set", 1, num(60)),),
            (("put", 0, num(70)),),
            (("put", 1, num(71)),),
            (("put", 2, num(72)), ("put", 1, num(71))),
            (("put", 2, num(72)), ("set", 1, num(60))),
        )
        inner = (
            (("set", 0, num(51)),),
            (("up", 1), ("set", 0, num(51))),
            (("up", 4), ("set", 0, num(51))),
            (("up", 5), ("put", 1, num(1)), ("set", 0, num(9))),
        )
        first = component((child(1, cell(1)), show(cell(0))), (3, 4), actions)
        second = component((show(prop(0)), show(store(2)), show(store(1)), show(store(9))), (5,), inner)
        return program_of(first, second, store=(0, 71, 2))

    def needed(self, *deeds, asleep=()):
        return between(self.program(), (), deeds, asleep)

    def test_nothing(self):
        self.assertEqual(self.needed(), ())
        self.assertEqual(self.needed(asleep=((), (at(0),))), ())

    def test_cells(self):
        self.assertEqual(self.needed(("act", (at(0),), 0)), (((at(0),), (CELLS,), 1),))
        self.assertEqual(self.needed(("act", (), 0)), (((), (CELLS,), 1),))

    def test_props(self):
        self.assertEqual(self.needed(("act", (), 1)), (((), (CELLS,), 1), ((at(0),), (PROPS,), 1)))

    def test_store_places(self):
        self.assertEqual(self.needed(("act", (), 3)), ())
        self.assertEqual(self.needed(("act", (), 2)), ())
        self.assertEqual(self.needed(("act", (), 4)), (((at(0),), (("store", 2),), 1),))

    def test_a_store_place_that_gets_the_value_it_has(self):
        # The put of 71 at place 1 counts here, where 1 was; that of 72 at place 2 does not.
        program = self.program()
        other = program[:2] + ((0, 1, 72), ())
        self.assertEqual(between(other, (), (("act", (), 4),)), (((at(0),), (("store", 1),), 1),))

    def test_several_store_places_rise(self):
        program = self.program()
        actions = ((("put", 2, num(9)), ("put", 1, num(9)), ("put", 0, num(9))),)
        program = ("program", (program[1][0][:3] + (actions,), program[1][1]), program[2], ())
        self.assertEqual(between(program, (), (("act", (), 0),)), (((at(0),), (("store", 1), ("store", 2)), 1),))

    def test_cells_and_props(self):
        found = self.needed(("act", (at(0),), 1))
        self.assertEqual(found, (((), (CELLS,), 1), ((at(0),), (CELLS, PROPS), 1)))

    def test_cells_and_store(self):
        found = self.needed(("act", (at(0),), 2))
        self.assertEqual(found, (((at(0),), (CELLS, ("store", 2)), 1),))

    def test_props_and_store(self):
        found = self.needed(("act", (), 5))
        self.assertEqual(found, (((), (CELLS,), 1), ((at(0),), (PROPS, ("store", 2)), 1)))

    def test_cells_props_and_store(self):
        found = self.needed(("act", (at(0),), 3))
        self.assertEqual(found, (((), (CELLS,), 1), ((at(0),), (CELLS, PROPS, ("store", 1), ("store", 2)), 1)))

    def test_values_that_come_back(self):
        deeds = (("act", (), 0), ("enter", (), 0, 3))
        self.assertEqual(self.needed(*deeds), ())
        self.assertEqual(between(self.program(), deeds[:1], deeds), (((), (CELLS,), 1),))


class ReadTest(unittest.TestCase):
    def test_what_it_read_before_counts(self):
        # With place 0 at 1 the child reads place 1, before it read place 0 alone.
        inner = component((("when", store(0), (show(store(1)),), (text("x"),)),))
        actions = ((("put", 0, num(1)), ("put", 1, num(9))), (("put", 1, num(8)),))
        program = program_of(component((child(1),), (), actions), inner, store=(0, 5))
        self.assertEqual(between(program, (), (("act", (), 0),)), (((at(0),), (("store", 0),), 1),))
        self.assertEqual(between(program, (), (("act", (), 1),)), ())
        both = (("act", (), 0), ("act", (), 1))
        self.assertEqual(between(program, both[:1], both), (((at(0),), (("store", 1),), 1),))

    def test_props_that_are_read_from_the_store(self):
        # The page's own component reads the place, the child is handed the value.
        program = program_of(
            component((child(1, store(0)), child(1, ("less", store(0), num(5)))), (), ((("put", 0, num(3)),),)),
            component((show(prop(0)),)), store=(2,),
        )
        found = between(program, (), (("act", (), 0),))
        self.assertEqual(found, (((), (("store", 0),), 1), ((at(0),), (PROPS,), 1)))


class NewTest(unittest.TestCase):
    def program(self):
        first = component(
            (each(cell(0), child(1, cell(0), key=index())), ("when", cell(1), (child(2),), (box(child(2)),))), (1, 0),
        )
        second = component((show(prop(0)), child(2), show(store(0))), (7,))
        return program_of(first, second, component((show(cell(0)),), (8,)), store=(4,))

    def test_new_ones_and_those_within_them(self):
        found = between(self.program(), (), (("enter", (), 0, 2),))
        first, second = (key(0, 0, 0),), (key(1, 0, 0),)
        self.assertEqual(found, (
            ((), (CELLS,), 1), (first, (PROPS,), 1), (second, NEW, 1), (second + (at(1),), NEW, 1),
        ))

    def test_new_ones_are_called_once_even_asleep(self):
        first, second = (key(0, 0, 0),), (key(1, 0, 0),)
        asleep = ((), first, first + (at(1),), second, second + (at(1),))
        found = between(self.program(), (), (("enter", (), 0, 2),), asleep)
        self.assertEqual(found, (
            ((), (CELLS,), 2), (first, (PROPS,), 2), (second, NEW, 1), (second + (at(1),), NEW, 1),
        ))

    def test_another_place_is_another_path(self):
        found = between(self.program(), (), (("enter", (), 1, 2),))
        self.assertEqual(found, (((), (CELLS,), 1), ((at(1, 0, 0),), NEW, 1)))
        found = between(self.program(), (("enter", (), 1, 2),), ())
        self.assertEqual(found, (((), (CELLS,), 1), ((at(1, 1, 0), at(0)), NEW, 1)))

    def test_those_that_go_are_not_needed(self):
        self.assertEqual(between(self.program(), (), (("enter", (), 0, 0),)), (((), (CELLS,), 1),))

    def test_one_that_went_and_came_is_as_before(self):
        deeds = (("enter", (key(0, 0, 0),), 0, 9), ("enter", (), 0, 0), ("enter", (), 0, 1))
        path = (key(0, 0, 0),)
        self.assertEqual(between(self.program(), (), deeds[:1]), ((path, (CELLS,), 1),))
        self.assertEqual(between(self.program(), (), deeds), ())
        self.assertEqual(between(self.program(), deeds[:2], deeds), (
            ((), (CELLS,), 1), (path, NEW, 1), (path + (at(1),), NEW, 1),
        ))


class AsleepTest(unittest.TestCase):
    def program(self):
        first = component((each(num(3), child(1, cell(0), key=index())),), (1,))
        return program_of(first, component((show(prop(0)),), (2,)))

    def paths(self):
        return [(key(number, 0, 0),) for number in range(3)]

    def test_each_that_sleeps_is_called_twice(self):
        paths = [()] + self.paths()
        for many in range(5):
            for asleep in itertools.combinations(paths, many):
                found = between(self.program(), (), (("enter", (), 0, 5),), asleep[::-1])
                reasons = [(CELLS,)] + [(PROPS,)] * 3
                calls = [2 if path in asleep else 1 for path in paths]
                self.assertEqual(found, tuple(zip(paths, reasons, calls)))

    def test_those_that_sleep_and_are_not_needed(self):
        path = self.paths()[1]
        asleep = tuple(self.paths()) + ((),)
        self.assertEqual(between(self.program(), (), (("enter", path, 0, 5),), asleep), ((path, (CELLS,), 2),))

    def test_paths_that_are_not_there(self):
        self.assertEqual(between(self.program(), (), (), ((at(9),), (part(0),))), ())


class PartTest(unittest.TestCase):
    PART = (key(1, 0), part(0))

    def program(self):
        """The part's component has a cell, a child with a prop from its cell, children by a store place."""
        first = component((box(part(0), key=("less", cell(0), num(5))), part(1), show(store(0))), (1,), (
            (("put", 0, num(2)),), (("put", 1, num(9)),), (("set", 0, num(5)),),
        ))
        inner = component((child(2, cell(0)), each(store(0), child(2, num(0), key=index())), ("input", "f", 0)), (6,))
        return program_of(first, inner, component((show(prop(0)),)), store=(1, 3), parts=(1, 2))

    def test_nothing_for_the_part_alone(self):
        everything = ((), self.PART, self.PART + (at(0),), self.PART + (key(0, 1, 0),), (part(1),))
        for asleep in ((), everything):
            self.assertEqual(between(self.program(), (), (("part", 0),), asleep), ())
            self.assertEqual(between(self.program(), (), (("part", 1),), asleep), ())
            self.assertEqual(between(self.program(), (), (("part", 1), ("part", 0)), asleep), ())

    def test_the_store_of_the_first_world_is_what_it_read(self):
        deeds = (("act", (), 0), ("part", 0))
        found = between(self.program(), deeds[:1], deeds)
        self.assertEqual(found, ((self.PART, (("store", 0),), 1), (self.PART + (key(1, 1, 0),), NEW, 1)))
        found = between(self.program(), deeds[:1], deeds, ((), self.PART, self.PART + (key(1, 1, 0),)))
        self.assertEqual(found, ((self.PART, (("store", 0),), 2), (self.PART + (key(1, 1, 0),), NEW, 1)))

    def test_with_what_changes_outside_of_it(self):
        found = between(self.program(), (), (("act", (), 0), ("part", 0)))
        self.assertEqual(found, (
            ((), (("store", 0),), 1), (self.PART, (("store", 0),), 1), (self.PART + (key(1, 1, 0),), NEW, 1),
        ))

    def test_a_store_place_that_it_does_not_read(self):
        deeds = (("act", (), 1), ("part", 0))
        self.assertEqual(between(self.program(), deeds[:1], deeds), ())

    def test_its_cells_and_the_props_within_it(self):
        deeds = (("part", 0), ("enter", self.PART, 0, 7))
        found = between(self.program(), (), deeds, (self.PART,))
        self.assertEqual(found, ((self.PART, (CELLS,), 2), (self.PART + (at(0),), (PROPS,), 1)))

    def test_one_that_was_there_before_is_as_in_the_world_before(self):
        deeds = (("part", 0), ("act", (), 0), ("enter", self.PART, 0, 7))
        self.assertEqual(between(self.program(), deeds[:2], deeds), (
            (self.PART, (CELLS,), 1), (self.PART + (at(0),), (PROPS,), 1),
        ))
        self.assertEqual(between(self.program(), deeds, deeds), ())
        self.assertEqual(between(self.program(), deeds, deeds + (("part", 1),)), ())

    def test_one_that_was_present_at_first_is_as_in_the_world_before(self):
        before = run(self.program(), (0,), (("act", (), 0),))
        after = run(self.program(), (0,), (("act", (), 0), ("part", 1)))
        self.assertEqual(needs(self.program(), (0,), before, after, ()), ())
        found = needs(self.program(), (0,), first_world(self.program(), (0,)), after, ())
        self.assertEqual([path for path, _, _ in found], [(), self.PART, self.PART + (key(1, 1, 0),)])

    def test_at_another_path_it_is_new(self):
        deeds = (("act", (), 2), ("part", 0))
        path = (key(0, 0), part(0))
        new = ((path, NEW, 1), (path + (at(0),), NEW, 1), (path + (key(0, 1, 0),), NEW, 1))
        self.assertEqual(between(self.program(), deeds[:1], deeds, (path,)), new)
        self.assertEqual(between(self.program(), (), deeds), (((), (CELLS,), 1),) + new)
        self.assertEqual(between(self.program(), (("part", 0),), (("part", 0), deeds[0])), (((), (CELLS,), 1),) + new)


class OrderTest(unittest.TestCase):
    def test_the_order_of_the_page_of_the_new_world(self):
        first = component((
            box(child(1, cell(0)), key=cell(0)), each(num(2), child(1, cell(0), key=("minus", cell(0), index()))),
            child(2, cell(0)),
        ), (3,))
        program = program_of(first, component((child(2, prop(0)),)), component((show(prop(0)),)))
        found = between(program, (), (("enter", (), 0, 4),))
        within = [(key(4, 0), at(0)), (key(4, 1, 0),), (key(3, 1, 0),)]
        paths = [()]
        for path in within:
            paths += [path, path + (at(0),)]
        self.assertEqual([path for path, _, _ in found], paths + [(at(2),)])
        self.assertEqual([reasons for _, reasons, _ in found], [(CELLS,)] + [NEW] * 4 + [(PROPS,)] * 3)

    def test_the_example(self):
        deeds = (("act", (), 0), ("part", 0))
        everything = ((), (at(1),), (part(0),))
        self.assertEqual(between(example(), (), deeds[:1], everything), (((), (CELLS,), 2),))
        self.assertEqual(between(example(), deeds[:1], deeds, everything[1:]), ())


class SeedsTest(unittest.TestCase):
    def test_many_programs(self):
        for seed in range(60):
            program = Maker(seed).program()
            maker = Maker(seed + 1000)
            first = tuple(number for number in range(len(program[3])) if maker.chance.randrange(2))
            for _ in range(6):
                deeds = self.deeds(maker, program, first)
                many = maker.chance.randrange(len(deeds) + 1)
                earlier, later = run(program, first, deeds[:many]), run(program, first, deeds)
                paths = [path for path, _ in later[2]]
                asleep = tuple(path for path in paths if maker.chance.randrange(2))
                expected = self.expected(program, earlier, later, asleep)
                self.assertEqual(needs(program, first, earlier, later, asleep), expected, (seed, deeds))

    def deeds(self, maker, program, first):
        found = []
        for _ in range(maker.chance.randrange(7)):
            world = run(program, first, tuple(found))
            paths = [path for path, _ in world[2]]
            found.append(maker.deed(program, paths, [(path, maker.chance.randrange(3)) for path in paths]))
        return tuple(found)

    def expected(self, program, earlier, later, asleep):
        """By the words of the document, component by component."""
        pages = {earlier: page_of(program, earlier), later: page_of(program, later)}
        found = []
        for path, _, props, _ in components_of(pages[later]):
            within = [name[1] for name in path if name[0] == "part" and name[1] not in earlier[3]]
            before = first_world(program, tuple(within)) if within else earlier
            page = pages.get(before) or page_of(program, before)
            known = [(one[2], one[3]) for one in components_of(page) if one[0] == path]
            if not known:
                found.append((path, NEW, 1))
                continue
            reasons = [CELLS] if cells_at(before, path) != cells_at(later, path) else []
            reasons += [PROPS] if known[0][0] != props else []
            reasons += [("store", place) for place in known[0][1] if before[1][place] != later[1][place]]
            if reasons:
                found.append((path, tuple(reasons), 2 if path in asleep else 1))
        return tuple(found)

    def test_nothing_between_a_world_and_itself(self):
        for seed in range(60):
            program = Maker(seed).program()
            for world in worlds(program, (), (("act", (), 0), ("act", (), 1))):
                self.assertEqual(needs(program, (), world, world, tuple(path for path, _ in world[2])), ())


class NumbersTest(unittest.TestCase):
    PATHS = tuple((at(number),) for number in range(8))

    def test_from_0_on(self):
        numbers = Numbers()
        self.assertEqual([numbers.number(path) for path in self.PATHS], list(range(8)))

    def test_the_same_path_again(self):
        numbers = Numbers()
        asked = (0, 1, 0, 2, 1, 1, 3, 0)
        self.assertEqual([numbers.number(self.PATHS[one]) for one in asked], [0, 1, 0, 2, 1, 1, 3, 0])
        self.assertEqual(numbers.number(tuple(list(self.PATHS[2]))), 2)

    def test_other_paths_are_others(self):
        numbers = Numbers()
        paths = ((), (at(0),), (at(0), at(0)), (at(0, of=(0,)),), (key(0, 0),), (part(0),), (at(0, 0),))
        self.assertEqual([numbers.number(path) for path in paths], list(range(7)))

    def test_keep_some(self):
        numbers = Numbers()
        for path in self.PATHS[:4]:
            numbers.number(path)
        numbers.keep((self.PATHS[3], self.PATHS[1]))
        self.assertEqual([numbers.number(self.PATHS[one]) for one in (1, 3, 1)], [1, 3, 1])
        self.assertEqual([numbers.number(self.PATHS[one]) for one in (2, 0, 2, 4)], [4, 5, 4, 6])

    def test_keep_all(self):
        numbers = Numbers()
        for path in self.PATHS[:4]:
            numbers.number(path)
        numbers.keep(self.PATHS[:4])
        self.assertEqual([numbers.number(path) for path in self.PATHS[:6]], [0, 1, 2, 3, 4, 5])

    def test_keep_none(self):
        numbers = Numbers()
        for path in self.PATHS[:3]:
            numbers.number(path)
        numbers.keep(())
        self.assertEqual([numbers.number(path) for path in self.PATHS[:3]], [3, 4, 5])

    def test_keep_gives_no_numbers(self):
        numbers = Numbers()
        numbers.number(self.PATHS[0])
        numbers.keep(self.PATHS[:3])
        self.assertEqual([numbers.number(self.PATHS[one]) for one in (2, 1, 0)], [1, 2, 0])

    def test_keep_at_first_and_twice(self):
        numbers = Numbers()
        numbers.keep(())
        numbers.keep(self.PATHS[:2])
        self.assertEqual(numbers.number(self.PATHS[0]), 0)
        numbers.keep(self.PATHS[:1])
        numbers.keep(self.PATHS[:1] * 2)
        self.assertEqual((numbers.number(self.PATHS[1]), numbers.number(self.PATHS[0])), (1, 0))

    def test_no_number_is_given_twice(self):
        chance = random.Random(5)
        for _ in range(50):
            numbers = Numbers()
            known, given = {}, []
            for _ in range(60):
                if chance.randrange(5) == 0:
                    kept = tuple(chance.sample(self.PATHS, chance.randrange(5)))
                    numbers.keep(kept)
                    known = {path: number for path, number in known.items() if path in kept}
                path = chance.choice(self.PATHS)
                if path not in known:
                    known[path] = len(given)
                    given.append(path)
                self.assertEqual(numbers.number(path), known[path])

    def test_two_are_two(self):
        one, other = Numbers(), Numbers()
        one.number(self.PATHS[0])
        self.assertEqual(other.number(self.PATHS[1]), 0)


if __name__ == "__main__":
    unittest.main()
