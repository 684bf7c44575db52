"""[z1] what is live, [z2] what may be called."""

import unittest

from clients import Chance, component_at
from pagewake.checking import templates
from pagewake.sleepers import live_actions, may_be_called, never_wanted, sleepers
from programs import LivelyMaker, Maker, box, cell, child, component, each, example, index, num, part, program_of, prop
from programs import show, store, text

SET = (("set", 0, num(7)),)


def when(expression, contents, others=()):
    return ("when", expression, contents, others)


class LiveTest(unittest.TestCase):
    def live(self, *components, **more):
        return live_actions(program_of(*components, **more))

    def test_nothing(self):
        self.assertEqual(self.live(component()), ())
        self.assertEqual(self.live(component((text("x"),), (1,), (SET,))), ())

    def test_the_action_of_a_box(self):
        actions = (SET, SET, SET)
        self.assertEqual(self.live(component((box(),), (), actions)), ())
        self.assertEqual(self.live(component((box(action=1),), (), actions)), ((0, 1),))
        boxes = (box(action=2), box(), box(action=0), box(action=2))
        self.assertEqual(self.live(component(boxes, (), actions)), ((0, 0), (0, 2)))

    def test_actions_that_are_not_there(self):
        self.assertEqual(self.live(component((box(action=0), box(action=3)))), ())
        self.assertEqual(self.live(component((box(action=1), box(action=0)), (), (SET,))), ((0, 0),))

    def test_boxes_within_others(self):
        inner = (box(box(action=0)), each(num(0), box(action=1)), when(num(0), (box(action=2),), (box(action=3),)))
        self.assertEqual(self.live(component(inner, (), (SET,) * 4)), tuple((0, number) for number in range(4)))

    def test_components_that_stand_nowhere(self):
        self.assertEqual(self.live(component(), component((box(action=0),), (), ((),))), ((1, 0),))

    def test_an_up(self):
        first = component((child(1),), (), (SET, SET))
        second = component((box(action=0),), (), ((("up", 1),),))
        self.assertEqual(self.live(first, second), ((0, 1), (1, 0)))

    def test_an_up_of_an_action_that_is_not_live(self):
        first = component((child(1),), (), (SET, SET))
        self.assertEqual(self.live(first, component((box(action=0),), (), (SET, (("up", 1),)))), ((1, 0),))

    def test_an_up_to_an_action_that_is_not_there(self):
        first = component((child(1),), (), (SET,))
        self.assertEqual(self.live(first, component((box(action=0),), (), ((("up", 1), ("up", 9)),))), ((1, 0),))

    def test_ups_over_several(self):
        third = component((box(action=1),), (), (SET, (("put", 0, num(1)), ("up", 0))))
        second = component((when(num(0), (), (child(2),)),), (), ((("up", 2), SET[0], ("up", 0)), SET))
        first = component((each(num(0), box(child(1))),), (), (SET, SET, SET))
        self.assertEqual(self.live(first, second, third), ((0, 0), (0, 2), (1, 0), (2, 1)))

    def test_an_up_in_the_middle_alone(self):
        # That of the innermost one is live; without an up of its own it reaches nothing.
        third = component((box(action=0),), (), (SET,))
        second = component((child(2),), (), ((("up", 0),),))
        self.assertEqual(self.live(component((child(1),), (), (SET,)), second, third), ((2, 0),))

    def test_several_hosts(self):
        third = component((box(action=0),), (), ((("up", 0),),))
        second = component((child(2),), (), (SET,))
        other = component((text("x"),), (), (SET,))
        found = self.live(component((child(1), child(2), child(3)), (), (SET,)), second, third, other)
        self.assertEqual(found, ((0, 0), (1, 0), (2, 0)))

    def test_the_page_is_the_host_of_parts(self):
        first = component((part(0), part(1)), (), (SET, SET, SET))
        second = component((box(action=0),), (), ((("up", 1),),))
        third = component((box(action=0),), (), ((("up", 2),),))
        self.assertEqual(self.live(first, second, third, parts=(1, 1)), ((0, 1), (1, 0), (2, 0)))
        self.assertEqual(self.live(first, second, third, parts=(1, 2)), ((0, 1), (0, 2), (1, 0), (2, 0)))

    def test_the_example(self):
        self.assertEqual(live_actions(example()), ((0, 0),))


class CalledTest(unittest.TestCase):
    def called(self, *components, **more):
        return may_be_called(program_of(*components, **more))

    def test_nothing(self):
        self.assertEqual(self.called(component((text("x"), show(store(0)), show(cell(0))), (1,)), store=(1,)), ())

    def test_cells_that_a_live_action_sets(self):
        self.assertEqual(self.called(component((box(action=0),), (1,), (SET,))), (0,))
        self.assertEqual(self.called(component((box(),), (1,), (SET,))), ())
        self.assertEqual(self.called(component((box(action=1),), (1,), (SET, ()))), ())

    def test_cells_that_are_not_there(self):
        self.assertEqual(self.called(component((box(action=0),), (), (SET,))), ())
        self.assertEqual(self.called(component((box(action=0),), (1,), ((("set", 1, num(5)),),))), ())
        self.assertEqual(self.called(component((box(action=0),), (1, 2), ((("set", 1, num(5)),),))), (0,))

    def test_actions_of_its_own_alone(self):
        # The child sets a cell of its own; the page's own component has cells and no live action.
        second = component((box(action=0),), (1,), (SET,))
        self.assertEqual(self.called(component((child(1),), (1,), (SET,)), second), (1,))

    def test_fields(self):
        self.assertEqual(self.called(component((("input", "f", 0),), (1,))), (0,))
        self.assertEqual(self.called(component((box(("input", "f", 0)),), (1,))), (0,))
        self.assertEqual(self.called(component((child(1),)), component((each(num(0), ("input", "f", 0)),), (1,))), (1,))

    def test_a_field_of_whatever_cell(self):
        self.assertEqual(self.called(component((("input", "f", 3),), (1,))), (0,))
        self.assertEqual(self.called(component((("input", "f", 0),))), (0,))

    def test_ups_that_set(self):
        second = component((box(action=0),), (), ((("up", 0),),))
        # The page's own component may be called, and the other one with it.
        self.assertEqual(self.called(component((child(1),), (1,), (SET,)), second), (0, 1))
        self.assertEqual(self.called(component((child(1),), (1,), ((), SET)), second), ())


class StoreTest(unittest.TestCase):
    """Live store places, and the expressions that name them."""

    def called(self, template, *steps, store=(1, 2)):
        """Whether a component with the template is called, where a component beside it does the steps."""
        acting = component((box(action=0),), (), (steps,))
        quiet = component((child(1), child(2)), (), ())
        found = may_be_called(program_of(quiet, component((template,)), acting, component(), store=store))
        self.assertIn(found, ((), (1,), (1, 3)))
        return 1 in found

    def test_each_place_of_an_expression(self):
        put = ("put", 1, num(5))
        for template in (
            show(store(1)), box(key=store(1)), when(store(1), ()), each(store(1)), child(3, store(1)),
            child(3, num(0), num(1), store(1)), child(3, key=store(1)), box(show(store(1))),
            each(num(0), show(store(1))), when(num(1), (), (show(store(1)),)), when(num(0), (show(store(1)),)),
            box(box(each(num(0), box(key=store(1))))),
        ):
            self.assertTrue(self.called(template, put), template)
            self.assertFalse(self.called(template, ("put", 0, num(5))), template)
            self.assertFalse(self.called(template), template)

    def test_each_place_within_an_expression(self):
        put = ("put", 1, num(5))
        zero = num(0)
        for sign in ("plus", "minus", "same", "less"):
            self.assertTrue(self.called(show((sign, store(1), zero)), put))
            self.assertTrue(self.called(show((sign, zero, store(1))), put))
            self.assertFalse(self.called(show((sign, zero, store(0))), put))
        for at in range(3):
            inner = [zero] * 3
            inner[at] = ("plus", num(1), ("minus", index(), store(1)))
            self.assertTrue(self.called(show(("if", *inner)), put))

    def test_other_expressions(self):
        put = ("put", 1, num(5))
        for expression in (num(1), cell(1), prop(1), index(), store(0), ("plus", num(1), cell(1))):
            self.assertFalse(self.called(show(expression), put), expression)

    def test_templates_without_expressions(self):
        for template in (text("x"), box(), child(3), box(text("x"), action=1)):
            self.assertFalse(self.called(template, ("put", 0, num(5)), ("put", 1, num(5))), template)

    def test_places_that_are_not_there(self):
        self.assertTrue(self.called(show(store(2)), ("put", 2, num(5)), store=(1, 2, 3)))
        self.assertFalse(self.called(show(store(2)), ("put", 2, num(5))))
        self.assertFalse(self.called(show(store(0)), ("put", 0, num(5)), store=()))

    def test_puts_that_are_not_live(self):
        first = component((show(store(0)), box(action=1)), (), ((("put", 0, num(5)),), ()))
        self.assertEqual(may_be_called(program_of(first, store=(1,))), ())

    def test_expressions_of_steps_do_not_count(self):
        first = component((box(action=0),), (), ((("put", 0, ("plus", store(0), num(1))),),))
        self.assertEqual(may_be_called(program_of(first, store=(1,))), ())

    def test_puts_of_an_up(self):
        second = component((box(action=0),), (), ((("up", 0),),))
        first = component((child(1), child(2)), (), ((("put", 0, num(5)),),))
        program = program_of(first, second, component((show(store(0)),)), store=(1,))
        self.assertEqual(may_be_called(program), (2,))


class ChildrenTest(unittest.TestCase):
    def test_children_of_one_that_may_be_called(self):
        first = component((child(1), box(each(num(0), child(2)))), (), ())
        live = component((box(action=0), when(num(0), (), (child(3),))), (1,), (SET,))
        program = program_of(first, live, component((child(4),)), component((child(4),)), component((text("x"),)))
        self.assertEqual(may_be_called(program), (1, 3, 4))
        self.assertEqual(sleepers(program), (0, 2))

    def test_parts_that_stand_within_a_box_with_a_key(self):
        contents = (part(0), box(part(1)), box(part(2), key=num(3)), box(action=0))
        inner = component((text("x"),))
        program = program_of(component(contents, (1,), (SET,)), inner, inner, inner, parts=(1, 2, 3))
        self.assertEqual(may_be_called(program), (0, 3))

    def test_a_key_further_out(self):
        inner = component((text("x"),))
        contents = (box(box(part(0)), text("x"), key=cell(0)), box(part(1), box(key=num(1))), box(action=0))
        program = program_of(component(contents, (1,), (SET,)), inner, inner, parts=(1, 2))
        self.assertEqual(may_be_called(program), (0, 1))

    def test_a_key_where_the_page_may_not_be_called(self):
        program = program_of(component((box(part(0), key=num(3)),), (1,), (SET,)), component((text("x"),)), parts=(1,))
        self.assertEqual(may_be_called(program), ())

    def test_a_key_in_a_row_beside(self):
        inner = component((text("x"),))
        contents = (box(key=num(3)), part(0), box(box(key=num(4)), part(1)), box(action=0))
        program = program_of(component(contents, (1,), (SET,)), inner, inner, parts=(1, 2))
        self.assertEqual(may_be_called(program), (0,))

    def test_the_children_of_such_a_part(self):
        contents = (box(part(0), key=num(3)), ("input", "f", 0))
        program = program_of(component(contents), component((child(2),)), component((text("x"),)), parts=(1,))
        self.assertEqual(may_be_called(program), (0, 1, 2))

    def test_a_part_may_be_called_for_itself(self):
        program = program_of(component((part(0),)), component((("input", "f", 0),), (1,)), parts=(1,))
        self.assertEqual((may_be_called(program), sleepers(program)), ((1,), (0,)))


class SleepersTest(unittest.TestCase):
    def test_the_others(self):
        program = program_of(component((child(1), child(2))), component((("input", "f", 0),)), component())
        self.assertEqual((may_be_called(program), sleepers(program)), ((1,), (0, 2)))

    def test_never_wanted(self):
        # The component 1 acts and changes no cell: it is never called, and its code is wanted.
        first = component((child(1), child(2), child(3)))
        second = component((box(action=0),), (), ((("put", 0, num(5)),),))
        third = component((show(store(0)),))
        program = program_of(first, second, third, component((text("x"),), (), (SET,)), store=(1,))
        self.assertEqual(sleepers(program), (0, 1, 3))
        self.assertEqual(never_wanted(program), (0, 3))

    def test_an_action_without_steps_is_wanted(self):
        program = program_of(component((box(action=0),), (), ((),)))
        self.assertEqual((live_actions(program), sleepers(program), never_wanted(program)), (((0, 0),), (0,), ()))

    def test_one_that_sleeps_for_ever_within_a_part(self):
        program = program_of(component((part(0), ("input", "f", 0))), component((child(2),)), component(), parts=(1,))
        self.assertEqual((may_be_called(program), never_wanted(program)), ((0,), (1, 2)))

    def test_the_example(self):
        self.assertEqual((may_be_called(example()), sleepers(example()), never_wanted(example())), ((0, 1), (), ()))


class SeedsTest(unittest.TestCase):
    def test_by_the_words_of_the_document(self):
        for seed in range(300):
            program = (Maker if seed % 2 else LivelyMaker)(seed).program()
            live = self.live(program)
            called = self.called(program, live)
            rest = [number for number in range(len(program[1])) if number not in called]
            acting = [component for component, _ in live]
            self.assertEqual(live_actions(program), tuple(sorted(live)), seed)
            self.assertEqual(may_be_called(program), tuple(sorted(called)), seed)
            self.assertEqual(sleepers(program), tuple(rest), seed)
            self.assertEqual(never_wanted(program), tuple(number for number in rest if number not in acting), seed)

    def all_of(self, program, number, kind):
        return [template for _, template in templates(program[1][number][2]) if template[0] == kind]

    def live(self, program):
        """Every action is asked again until nothing more is live."""
        live = set()
        while True:
            more = {
                (number, action)
                for number, component in enumerate(program[1]) for action in range(len(component[3]))
                if self.is_live(program, number, action, live)
            }
            if more == live:
                return live
            live = more

    def is_live(self, program, number, action, live):
        if any(template[3] == action for template in self.all_of(program, number, "box")):
            return True
        inner = {template[1] for template in self.all_of(program, number, "child")}
        inner |= set(program[3]) if number == 0 else set()
        return any(one in inner and ("up", action) in program[1][one][3][other] for one, other in live)

    def called(self, program, live):
        steps = [(number, step) for number, action in live for step in program[1][number][3][action]]
        places = {step[1] for _, step in steps if step[0] == "put" and step[1] < len(program[2])}
        called = set()
        while True:
            numbers = range(len(program[1]))
            more = {number for number in numbers if self.is_called(program, number, steps, places, called)}
            if more == called:
                return called
            called = more

    def is_called(self, program, number, steps, places, called):
        _, cells, contents, _ = program[1][number]
        if any(own == number and step[0] == "set" and step[1] < len(cells) for own, step in steps):
            return True
        if self.all_of(program, number, "input"):
            return True
        # In contents a store place stands as ("store", place) and nothing else looks like this.
        if any(f"('store', {place})" in str(contents) for place in places):
            return True
        if any(number in {one[1] for one in self.all_of(program, host, "child")} for host in called):
            return True
        return 0 in called and any(program[3][own] == number for own in self.below_keys(program[1][0][2], False))

    def below_keys(self, contents, within):
        found = []
        for template in contents:
            if template[0] == "part" and within:
                found.append(template[1])
            if template[0] == "box":
                found.extend(self.below_keys(template[4], within or template[2] is not None))
        return found

    def test_no_client_calls_or_wants_them(self):
        many = 0
        for seed in range(1100, 1180):
            maker = (Maker if seed % 2 else LivelyMaker)(seed)
            runs = Chance(maker, maker.program())
            asleep, unwanted = sleepers(runs.program), never_wanted(runs.program)
            many += len(asleep)
            for _ in range(50):
                runs.step()
                self.assertEqual([code for code in runs.client.wants() if code in unwanted], [])
            runs.finish()
            for commit in runs.client.record:
                for path, _ in commit[5]:
                    self.assertNotIn(component_at(runs.program, path), asleep)
        self.assertGreater(many, 50)


if __name__ == "__main__":
    unittest.main()
