"""[p1] the place of a template, over all kinds of [c3]."""

import unittest

from pagewake.checking import templates

TEXT = ("text", "n 1")
SHOW = ("show", ("plus", ("cell", 0), ("num", 1)))
CHILD = ("child", 1, ("num", 3), (("store", 0), ("index",)))
PART = ("part", 0)
FIELD = ("input", "field", 2)


def box(*contents):
    return ("box", "p", ("cell", 0), 1, contents)


def when(contents, others):
    return ("when", ("cell", 0), contents, others)


def each(*contents):
    return ("each", ("num", 2), contents)


def places(contents):
    return tuple(place for place, _ in templates(contents))


class TemplatesTest(unittest.TestCase):
    def test_no_contents(self):
        self.assertEqual(templates(()), ())

    def test_kinds_without_contents(self):
        row = (TEXT, SHOW, CHILD, PART, FIELD)
        found = templates(row)
        self.assertEqual(found, (((0,), TEXT), ((1,), SHOW), ((2,), CHILD), ((3,), PART), ((4,), FIELD)))
        self.assertIs(type(found), tuple)
        self.assertTrue(all(type(one) is tuple and type(one[0]) is tuple for one in found))

    def test_a_box_stands_before_what_is_in_it(self):
        inner = box(TEXT, SHOW)
        self.assertEqual(
            templates((TEXT, inner, FIELD)),
            (((0,), TEXT), ((1,), inner), ((1, 0), TEXT), ((1, 1), SHOW), ((2,), FIELD)),
        )

    def test_an_each_stands_before_what_is_in_it_once(self):
        inner = each(CHILD, TEXT)
        self.assertEqual(
            templates((inner, PART)),
            (((0,), inner), ((0, 0), CHILD), ((0, 1), TEXT), ((1,), PART)),
        )

    def test_a_when_has_its_contents_before_its_others(self):
        inner = when((TEXT, SHOW), (FIELD, CHILD))
        self.assertEqual(
            templates((SHOW, inner, TEXT)),
            (
                ((0,), SHOW),
                ((1,), inner),
                ((1, 0, 0), TEXT),
                ((1, 0, 1), SHOW),
                ((1, 1, 0), FIELD),
                ((1, 1, 1), CHILD),
                ((2,), TEXT),
            ),
        )

    def test_others_are_1_also_where_the_contents_are_empty(self):
        inner = when((), (TEXT,))
        self.assertEqual(templates((inner,)), (((0,), inner), ((0, 1, 0), TEXT)))
        inner = when((TEXT,), ())
        self.assertEqual(templates((inner,)), (((0,), inner), ((0, 0, 0), TEXT)))

    def test_empty_ones(self):
        row = (box(), when((), ()), each())
        self.assertEqual(templates(row), (((0,), row[0]), ((1,), row[1]), ((2,), row[2])))

    def test_several_within_one_another(self):
        deep_each = each(SHOW, TEXT)
        deep_when = when((deep_each,), (FIELD,))
        deep_box = box(TEXT, deep_when)
        self.assertEqual(
            templates((TEXT, deep_box, TEXT)),
            (
                ((0,), TEXT),
                ((1,), deep_box),
                ((1, 0), TEXT),
                ((1, 1), deep_when),
                ((1, 1, 0, 0), deep_each),
                ((1, 1, 0, 0, 0), SHOW),
                ((1, 1, 0, 0, 1), TEXT),
                ((1, 1, 1, 0), FIELD),
                ((2,), TEXT),
            ),
        )

    def test_kinds_in_themselves(self):
        self.assertEqual(places((box(box(TEXT)),)), ((0,), (0, 0), (0, 0, 0)))
        self.assertEqual(places((each(TEXT, each(TEXT)),)), ((0,), (0, 0), (0, 1), (0, 1, 0)))
        self.assertEqual(
            places((when((when((TEXT,), (TEXT,)),), (when((), (TEXT,)),)),)),
            ((0,), (0, 0, 0), (0, 0, 0, 0, 0), (0, 0, 0, 1, 0), (0, 1, 0), (0, 1, 0, 1, 0)),
        )

    def test_boxes_and_whens_in_an_each(self):
        self.assertEqual(
            places((TEXT, each(box(TEXT), when((box(TEXT),), (TEXT,))))),
            ((0,), (1,), (1, 0), (1, 0, 0), (1, 1), (1, 1, 0, 0), (1, 1, 0, 0, 0), (1, 1, 1, 0)),
        )

    def test_what_is_deeper_than_the_bound_is_there_too(self):
        row = (TEXT,)
        for _ in range(8):
            row = (box(*row),)
        self.assertEqual(places(row), tuple((0,) * many for many in range(1, 10)))

    def test_places_are_those_that_lead_to_the_templates(self):
        row = (box(when((each(TEXT),), (box(SHOW), FIELD))), each(when((), (CHILD,))), PART)
        for place, template in templates(row):
            self.assertIs(reached(row, place), template)

    def test_what_is_handed_in_is_not_changed(self):
        def made():
            return (box(when((each(TEXT),), (FIELD,))), each(CHILD), PART)

        row = made()
        before = templates(row)
        self.assertEqual(row, made())
        self.assertEqual(templates(row), before)


def reached(contents, place):
    """The template at a place, found by the words of [p1]."""
    template = contents[place[0]]
    behind = place[1:]
    if not behind:
        return template
    if template[0] == "when":
        return reached(template[2 + behind[0]], behind[1:])
    return reached(template[-1], behind)


if __name__ == "__main__":
    unittest.main()
