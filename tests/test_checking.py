"""[p2] the faults of programs of the shapes of [c4], within and beyond the bounds of [c5]."""

import unittest

from pagewake.checking import check
from pagewake.errors import PageFault, ProgramFault

TEXT = ("text", "a")


def box(*contents):
    return ("box", "p", None, None, contents)


def when(contents, others=()):
    return ("when", ("num", 1), contents, others)


def each(*contents):
    return ("each", ("num", 2), contents)


def child(number):
    return ("child", number, None, ())


def part(number):
    return ("part", number)


def component(*contents):
    return ("component", (0,), contents, ((("set", 0, ("num", 1)),),))


def program(components, parts=()):
    return ("program", components, (0,), parts)


def nested(*kinds, last=TEXT):
    """One template in another, the outermost kind first."""
    for wrap in reversed(kinds):
        last = wrap(last)
    return last


def when_contents(template):
    return when((template,))


def when_others(template):
    return when((), (template,))


PLAIN = component(TEXT)


class CheckTest(unittest.TestCase):
    def assert_none(self, components, parts=()):
        self.assertIsNone(check(program(components, parts)))

    def assert_fault(self, components, parts, own, place, reason):
        with self.assertRaises(ProgramFault) as caught:
            check(program(components, parts))
        fault = caught.exception
        self.assertEqual((fault.component, fault.place, fault.reason), (own, place, reason))
        self.assertIs(type(fault.place), tuple)
        self.assertIsInstance(fault, PageFault)
        self.assertIsInstance(fault, ValueError)


class NoFaultTest(CheckTest):
    def test_empty_ones(self):
        self.assert_none((component(),))
        self.assertIsNone(check(("program", (("component", (), (), ()),), (), ())))

    def test_the_example_of_the_document(self):
        count = ("box", "p", None, 0, (("text", "n "), ("show", ("cell", 0))))
        actions = ((("set", 0, ("plus", ("cell", 0), ("num", 1))),),)
        first = ("component", (0,), (count, ("child", 1, None, ()), ("part", 0)), actions)
        second = ("component", (), (("show", ("store", 0)),), ())
        self.assertIsNone(check(("program", (first, second), (5,), (1,))))

    def test_all_kinds_of_templates(self):
        expression = ("if", ("less", ("prop", 0), ("index",)), ("store", 9), ("cell", 9))
        contents = (
            ("text", "abc 12"),
            ("show", expression),
            ("box", "li", expression, 3, (part(0), part(1))),
            ("when", expression, (child(1),), (("input", "name", 7),)),
            ("each", expression, (("child", 1, expression, (expression,)),)),
            ("input", "name", 0),
        )
        self.assert_none((component(*contents), PLAIN), (1, 1))

    def test_children_of_every_greater_component(self):
        self.assert_none((component(child(1), child(2), child(2)), component(child(2)), PLAIN))

    def test_what_the_numbers_of_actions_and_cells_lead_to_is_no_fault(self):
        steps = (("set", 9, ("num", 1)), ("put", 9, ("cell", 9)), ("up", 9))
        bare = ("component", (), (("box", "p", None, 8, ()), ("input", "q", 8)), (steps,))
        self.assert_none((bare,))

    def test_three_around_every_kind(self):
        for wrap in (box, each, when_contents, when_others):
            self.assert_none((component(nested(wrap, wrap, wrap)),))
            self.assert_none((component(nested(wrap, wrap, wrap, last=child(1))), PLAIN))
        self.assert_none((component(nested(box, box, box, last=part(0))), PLAIN), (1,))
        self.assert_none((component(nested(box, box, box, last=box())),))

    def test_a_when_counts_once_though_it_has_two_numbers_in_a_place(self):
        self.assert_none((component(nested(when_others, when_contents, when_others)),))

    def test_24_templates(self):
        self.assert_none((component(*[TEXT] * 24),))
        self.assert_none((component(box(*[TEXT] * 10), each(*[TEXT] * 11), TEXT),))
        self.assert_none((component(when((TEXT,) * 10, (TEXT,) * 10), TEXT, TEXT, TEXT),))

    def test_24_templates_in_each_component(self):
        full = component(*[TEXT] * 24)
        self.assert_none((component(child(1), *[TEXT] * 23), full, full))

    def test_many_components_store_places_and_parts(self):
        eight = tuple(component(child(own + 1)) for own in range(7)) + (PLAIN,)
        self.assert_none(eight)
        self.assert_none(eight + (PLAIN,) * 3)
        self.assert_none((component(*[part(number) for number in range(4)]), PLAIN), (1,) * 4)
        self.assert_none((component(*[part(number) for number in range(6)]), PLAIN), (1,) * 6)
        self.assertIsNone(check(("program", (PLAIN,), (1,) * 6, ())))
        self.assertIsNone(check(("program", (PLAIN,), (1,) * 9, ())))

    def test_parts_in_any_order_beside_and_within_boxes(self):
        self.assert_none((component(part(2), box(part(0), box(part(1)))), PLAIN, PLAIN), (1, 2, 2))

    def test_components_that_stand_nowhere(self):
        self.assert_none((PLAIN, PLAIN, PLAIN))

    def test_the_program_is_not_changed(self):
        def made():
            return program((component(box(part(0)), each(child(1))), PLAIN), (1,))

        handed = made()
        check(handed)
        self.assertEqual(handed, made())


class TooDeepTest(CheckTest):
    def test_within_four_of_each_kind(self):
        for wrap, numbers in ((box, (0,)), (each, (0,)), (when_contents, (0, 0)), (when_others, (1, 0))):
            place = (0,) + numbers * 4
            self.assert_fault((component(nested(wrap, wrap, wrap, wrap)),), (), 0, place, "too deep")

    def test_within_kinds_that_are_mixed(self):
        tree = nested(box, when_others, each, when_contents)
        self.assert_fault((component(TEXT, tree),), (), 0, (1, 0, 1, 0, 0, 0, 0), "too deep")

    def test_the_outermost_that_is_too_deep(self):
        self.assert_fault((component(nested(box, box, box, box, box)),), (), 0, (0, 0, 0, 0, 0), "too deep")

    def test_any_kind_may_be_too_deep(self):
        for last in (TEXT, ("show", ("num", 0)), box(), when(()), each(), child(1), ("input", "a", 0), part(0)):
            first = component(nested(box, box, box, box, last=last))
            self.assert_fault((first, PLAIN), (1,), 0, (0, 0, 0, 0, 0), "too deep")

    def test_in_a_later_component(self):
        deep = component(TEXT, nested(each, box, each, box))
        self.assert_fault((PLAIN, PLAIN, deep), (), 2, (1, 0, 0, 0, 0), "too deep")

    def test_it_counts_before_what_else_is_wrong_with_the_template(self):
        for last in (child(0), child(9), part(9), part(0)):
            first = component(nested(box, each, box, box, last=last))
            self.assert_fault((first, PLAIN), (1,), 0, (0, 0, 0, 0, 0), "too deep")


class UnknownChildTest(CheckTest):
    def test_numbers_that_are_not_there(self):
        for number in (2, 3, 99, -1):
            self.assert_fault((component(TEXT, child(number)), PLAIN), (), 0, (1,), "unknown component")

    def test_numbers_that_are_not_greater(self):
        for number in (0, 1):
            broken = component(child(number))
            self.assert_fault((PLAIN, broken, PLAIN), (), 1, (0,), "unknown component")
        self.assert_fault((component(child(0)),), (), 0, (0,), "unknown component")

    def test_the_last_component_has_no_children(self):
        self.assert_fault((PLAIN, component(child(1))), (), 1, (0,), "unknown component")
        self.assert_fault((PLAIN, component(child(2))), (), 1, (0,), "unknown component")

    def test_within_others(self):
        first = component(when((TEXT,), (box(child(1), child(2)),)))
        self.assert_fault((first, PLAIN), (), 0, (0, 1, 0, 1), "unknown component")


class PartTemplateTest(CheckTest):
    def test_numbers_that_are_not_there(self):
        for number in (1, 2, -1):
            first = component(part(0), part(number))
            self.assert_fault((first, PLAIN), (1,), 0, (1,), "unknown part")
        self.assert_fault((component(part(0)), PLAIN), (), 0, (0,), "unknown part")

    def test_in_another_component(self):
        self.assert_fault((component(part(0)), component(TEXT, part(0))), (1,), 1, (1,), "part out of place")
        self.assert_fault((PLAIN, component(box(part(0)))), (1,), 1, (0, 0), "part out of place")

    def test_within_when_and_each(self):
        for wrap, place in ((when_contents, (0, 0, 0)), (when_others, (0, 1, 0)), (each, (0, 0))):
            first = component(wrap(part(0)))
            self.assert_fault((first, PLAIN), (1,), 0, place, "part out of place")

    def test_within_a_box_within_when_and_each_and_the_other_way_round(self):
        for wrap in (when_contents, when_others, each):
            behind = (1,) if wrap == when_others else (0,)
            numbers = (0,) if wrap == each else behind + (0,)
            first = component(wrap(box(part(0))))
            self.assert_fault((first, PLAIN), (1,), 0, (0,) + numbers + (0,), "part out of place")
            first = component(box(wrap(part(0))))
            self.assert_fault((first, PLAIN), (1,), 0, (0, 0) + numbers, "part out of place")

    def test_beside_when_and_each_it_is_in_place(self):
        self.assert_none((component(each(TEXT), part(0), when((TEXT,))), PLAIN), (1,))

    def test_twice(self):
        self.assert_fault((component(part(0), part(0)), PLAIN), (1,), 0, (1,), "part stands twice")
        first = component(box(part(0)), TEXT, box(part(1), part(0)))
        self.assert_fault((first, PLAIN), (1, 1), 0, (2, 1), "part stands twice")

    def test_unknown_counts_before_out_of_place(self):
        self.assert_fault((component(each(part(1))), PLAIN), (1,), 0, (0, 0), "unknown part")
        self.assert_fault((PLAIN, component(part(1))), (1,), 1, (0,), "unknown part")

    def test_out_of_place_counts_before_twice(self):
        first = component(part(0), each(part(0)))
        self.assert_fault((first, PLAIN), (1,), 0, (1, 0), "part out of place")


class TooManyTest(CheckTest):
    def test_25_templates(self):
        self.assert_fault((component(*[TEXT] * 25),), (), 0, (), "too many templates")

    def test_those_within_others_are_counted(self):
        for tree in (box(*[TEXT] * 24), each(*[TEXT] * 24), when((TEXT,) * 12, (TEXT,) * 12)):
            self.assert_fault((component(tree),), (), 0, (), "too many templates")

    def test_in_a_later_component(self):
        full = component(*[TEXT] * 24)
        self.assert_fault((full, full, component(*[TEXT] * 30)), (), 2, (), "too many templates")


class PartsTest(CheckTest):
    def test_components_that_are_not_there(self):
        for number in (0, 2, 3, -1):
            self.assert_fault((component(part(0)), PLAIN), (number,), -1, (0,), "unknown component")

    def test_without_a_place(self):
        self.assert_fault((PLAIN, PLAIN), (1,), -1, (0,), "part has no place")
        self.assert_fault((component(box(part(1)), part(0)), PLAIN), (1, 1, 1), -1, (2,), "part has no place")

    def test_unknown_counts_before_no_place(self):
        self.assert_fault((PLAIN, PLAIN), (0,), -1, (0,), "unknown component")

    def test_part_by_part(self):
        self.assert_fault((component(part(1)), PLAIN), (1, 0), -1, (0,), "part has no place")
        self.assert_fault((component(part(0)), PLAIN), (1, 1, 0), -1, (1,), "part has no place")
        self.assert_fault((component(part(0), part(2)), PLAIN), (1, 5, 1), -1, (1,), "unknown component")

    def test_without_components_none_is_there(self):
        self.assert_none((), ())
        self.assert_fault((), (1,), -1, (0,), "unknown component")


class FirstFaultTest(CheckTest):
    def test_in_the_order_of_the_text(self):
        first = component(each(part(0)), child(9), part(7))
        self.assert_fault((first, PLAIN), (1,), 0, (0, 0), "part out of place")
        first = component(part(7), each(part(0)), child(9))
        self.assert_fault((first, PLAIN), (1,), 0, (0,), "unknown part")
        first = component(child(9), part(7), nested(box, box, box, box))
        self.assert_fault((first, PLAIN), (1,), 0, (0,), "unknown component")

    def test_what_is_within_counts_before_what_stands_behind(self):
        first = component(box(TEXT, child(9)), part(7))
        self.assert_fault((first, PLAIN), (), 0, (0, 1), "unknown component")
        first = component(nested(box, box, box, box), child(9))
        self.assert_fault((first, PLAIN), (), 0, (0, 0, 0, 0, 0), "too deep")

    def test_contents_of_a_when_before_its_others(self):
        first = component(when((child(9),), (part(7),)))
        self.assert_fault((first, PLAIN), (), 0, (0, 0, 0), "unknown component")
        first = component(when((part(7),), (child(9),)))
        self.assert_fault((first, PLAIN), (), 0, (0, 0, 0), "unknown part")

    def test_templates_before_their_number(self):
        first = component(*[TEXT] * 25, child(9))
        self.assert_fault((first, PLAIN), (), 0, (25,), "unknown component")

    def test_too_many_templates_before_the_next_component(self):
        components = (component(*[TEXT] * 25), component(child(9)))
        self.assert_fault(components, (), 0, (), "too many templates")

    def test_component_by_component(self):
        components = (PLAIN, component(TEXT, child(9)), component(child(9)))
        self.assert_fault(components, (), 1, (1,), "unknown component")

    def test_components_before_parts(self):
        self.assert_fault((PLAIN, component(child(9))), (0,), 1, (0,), "unknown component")
        self.assert_fault((PLAIN, component(*[TEXT] * 25)), (1,), 1, (), "too many templates")
        self.assert_fault((component(each(part(1))), PLAIN), (0, 1), 0, (0, 0), "part out of place")


if __name__ == "__main__":
    unittest.main()
