"""[s1] the marks in which pages and parts are sent."""

import unittest

from pagewake.marks import write_page, write_part
from pagewake.pages import make_page
from pagewake.server import Server
from pagewake.worlds import first_world, page_of
from programs import Maker, at, box, cell, child, component, each, example, index, key, num, part, program_of, prop
from programs import show, store, text


def page(program, present=(), cells=()):
    return write_page(make_page(program, program[2], cells, present))


def row(*contents, cells=(), store=()):
    """The text of a page of one component, without its reads and its end."""
    told = page(program_of(component(contents, cells), store=store))
    reads, _, behind = told.partition(" ")
    return behind[:-1]


class NodesTest(unittest.TestCase):
    def test_an_empty_page(self):
        self.assertEqual(page(program_of(component())), "- !")

    def test_texts(self):
        self.assertEqual(row(text("one")), "'one'")
        self.assertEqual(row(text("n "), text(" "), text("2b")), "'n '' ''2b'")
        self.assertEqual(row(show(num(0)), show(num(999))), "'0''999'")

    def test_a_box(self):
        self.assertEqual(row(box(tag="p")), "(a0/- p - )")
        self.assertEqual(row(box(text("x"), tag="abcdefgh")), "(a0/- abcdefgh - 'x')")

    def test_actions(self):
        self.assertEqual(row(box(tag="p", action=0)), "(a0/- p 0 )")
        self.assertEqual(row(box(tag="p", action=12)), "(a0/- p 12 )")

    def test_boxes_within_boxes(self):
        found = row(text("a"), box(text("b"), box(text("c"), box(), tag="q"), text("d"), tag="p", action=1), text("e"))
        self.assertEqual(found, "'a'(a1/- p 1 'b'(a1/- q - 'c'(a1/- b - ))'d')'e'")

    def test_a_field(self):
        self.assertEqual(row(("input", "f", 1), cells=(4, 52)), "<a0/- f 1 52>")
        self.assertEqual(row(("input", "name", 3), cells=(4,)), "<a0/- name 3 0>")

    def test_a_child(self):
        inner = component((text("x"),))
        self.assertEqual(page(program_of(component((child(1),)), inner)), "- [a0/- 1 - - 'x']!")

    def test_the_props_of_a_child(self):
        first = component((child(1, num(3)), child(1, num(0), num(999), num(20))))
        self.assertEqual(page(program_of(first, component())), "- [a0/- 1 3 - ][a1/- 1 0.999.20 - ]!")

    def test_the_reads_of_a_child(self):
        inner = component((show(store(3)), show(store(0)), show(store(3)), show(store(1)), show(store(9))))
        found = page(program_of(component((child(1),)), inner, store=(7, 8, 9, 6)))
        self.assertEqual(found, "- [a0/- 1 - 0.1.3 '6''7''6''8''0']!")

    def test_the_reads_of_the_page(self):
        first = component((show(store(2)), child(1, store(0))))
        self.assertEqual(page(program_of(first, component(), store=(7, 8, 9))), "0.2 '9'[a1/- 1 7 - ]!")

    def test_children_within_children(self):
        second = component((child(2, prop(0)), box(child(2, num(6)), tag="p")))
        third = component((show(prop(0)),))
        found = page(program_of(component((child(1, num(5)),)), second, third))
        self.assertEqual(found, "- [a0/- 1 5 - [a0/- 2 5 - '5'](a1/- p - [a0/- 2 6 - '6'])]!")


class NamesTest(unittest.TestCase):
    def test_addresses(self):
        found = row(
            ("when", num(1), (box(),), ()), ("when", num(0), (), (text("x"), box())), each(num(1), text("y"), box()),
        )
        self.assertEqual(found, "(a0.0.0/- b - )'x'(a1.1.1/- b - )'y'(a2.1/0 b - )")

    def test_repeats(self):
        found = row(each(num(2), each(num(2), ("input", "f", 0))))
        self.assertEqual(found, "".join(f"<a0.0.0/{of} f 0 0>" for of in ("0.0", "0.1", "1.0", "1.1")))

    def test_repeats_outside_of_a_box_do_not_count(self):
        self.assertEqual(row(each(num(2), box(box()))), "(a0.0/0 b - (a0/- b - ))(a0.0/1 b - (a0/- b - ))")

    def test_keys(self):
        found = row(each(num(3), box(tag="p", key=("plus", index(), num(20)))))
        self.assertEqual(found, "(k0.0=20 p - )(k0.0=21 p - )(k0.0=22 p - )")
        self.assertEqual(row(box(key=num(0))), "(k0=0 b - )")

    def test_a_key_that_is_there_already(self):
        found = row(each(num(3), box(key=("less", index(), num(2)))))
        self.assertEqual(found, "(k0.0=1 b - )(a0.0/1 b - )(k0.0=0 b - )")

    def test_children_with_keys(self):
        first = component((each(num(2), child(1, index(), key=("minus", num(9), index()))),))
        self.assertEqual(page(program_of(first, component())), "- [k0.0=9 1 0 - ][k0.0=8 1 1 - ]!")

    def test_places_of_two_digits(self):
        self.assertEqual(row(*[text("x")] * 11, box()), "'x'" * 11 + "(a11/- b - )")


class PartsTest(unittest.TestCase):
    def program(self):
        inner = component((show(store(1)), box(text("in"), action=2), ("input", "f", 0), child(2)), (4,))
        first = component((text("a"), part(0), box(part(1), tag="p", key=num(3)), show(store(0))))
        return program_of(first, inner, component((text("z"),)), store=(7, 8), parts=(1, 2))

    def test_places(self):
        self.assertEqual(page(self.program()), "0 'a'{0}(k2=3 p - {1})'7'!")

    def test_a_part_that_is_present(self):
        told = "{0:1 '8'(a1/- b 2 'in')<a2/- f 0 4>[a3/- 2 - - 'z']}"
        self.assertEqual(page(self.program(), (0,)), "0 'a'" + told + "(k2=3 p - {1})'7'!")

    def test_one_within_a_box(self):
        self.assertEqual(page(self.program(), (1,)), "0 'a'{0}(k2=3 p - {1:- 'z'})'7'!")

    def test_a_part_that_comes_behind_the_page(self):
        _, nodes = make_page(self.program(), (7, 8), (), (0,))
        _, path, _, props, reads, inner = nodes[1]
        self.assertEqual(path, (part(0),))
        self.assertEqual(write_part(0, reads, inner), "{0:1 '8'(a1/- b 2 'in')<a2/- f 0 4>[a3/- 2 - - 'z']}")
        self.assertEqual(write_part(3, (), ()), "{3:- }")
        self.assertEqual(write_part(12, (0, 3, 5), (("text", (at(0),), "x"),)), "{12:0.3.5 'x'}")

    def test_a_page_of_values_that_are_told(self):
        program = program_of(component((show(cell(0)), child(1)), (1,)), component((("input", "f", 0),), (2,)))
        told = (((at(1),), (30,)), ((), (40,)))
        self.assertEqual(page(program, (), told), "- '40'[a1/- 1 - - <a0/- f 0 30>]!")


class WholeTextsTest(unittest.TestCase):
    def test_the_example(self):
        server = Server(example())
        told = "- (a0/- p 0 'n ''0')[a1/- 1 - 0 '5']{0}!"
        found = server.render()
        for number, sign in enumerate(told):
            self.assertEqual(found[number], sign, number)
        self.assertEqual(found, told)
        self.assertEqual(server.resolve(0), "{0:0 '5'}")

    def test_the_example_with_its_part(self):
        self.assertEqual(page(example(), (0,)), "- (a0/- p 0 'n ''0')[a1/- 1 - 0 '5']{0:0 '5'}!")

    def test_it_ends_once(self):
        for seed in range(60):
            program = Maker(seed).program()
            present = tuple(range(len(program[3])))
            found = write_page(page_of(program, first_world(program, present)))
            self.assertEqual((found.count("!"), found[-1]), (1, "!"), seed)
            self.assertEqual(found.count("("), found.count(")"), seed)
            self.assertEqual(found.count("["), found.count("]"), seed)
            self.assertEqual(found.count("{"), found.count("}"), seed)

    def test_other_pages_have_other_texts(self):
        texts = {}
        for seed in range(60):
            program = Maker(seed).program()
            for present in ((), (0,), (0, 1)):
                made = page_of(program, first_world(program, present[:len(program[3])]))
                found = texts.setdefault(write_page(made), self.without_ends(made))
                self.assertEqual(found, self.without_ends(made))

    def without_ends(self, made):
        """A page without what marks do not tell: the paths of texts, and places' paths."""
        return (made[0], tuple(self.node(node) for node in made[1]))

    def node(self, node):
        if node[0] == "text":
            return node[2]
        if node[0] == "place":
            return node[2:]
        if node[0] in ("box", "child"):
            return node[:5] + (tuple(self.node(inner) for inner in node[5]),)
        return node


if __name__ == "__main__":
    unittest.main()
