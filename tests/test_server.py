"""[s4] what a server makes and sends."""

import itertools
import unittest

from pagewake.marks import write_page, write_part
from pagewake.pages import components_of, make_page
from pagewake.reading import read
from pagewake.server import Server
from pagewake.worlds import first_world, page_of
from programs import Maker, box, cell, child, component, each, example, index, key, num, part, program_of, prop, show
from programs import store, text


def three_parts():
    first = component((part(1), box(part(0), key=store(0)), text("x"), part(2), show(store(1))), (1,))
    second = component((show(store(0)), box(child(2, cell(0)), key=cell(0))), (30,))
    return program_of(first, second, component((show(prop(0)),)), store=(5, 6), parts=(1, 2, 1))


PAGE = "0.1 {1}(k1=5 b - {0})'x'{2}'6'!"
TEXTS = (
    "{0:0 '5'(k1=30 b - [a0/- 2 30 - '30'])}",
    "{1:- '0'}",
    "{2:0 '5'(k1=30 b - [a0/- 2 30 - '30'])}",
)


class ServerTest(unittest.TestCase):
    def test_at_first(self):
        server = Server(three_parts())
        self.assertEqual((server.sent, server.ready), ("", ()))

    def test_the_page(self):
        server = Server(three_parts())
        self.assertEqual(server.render(), PAGE)
        self.assertEqual((server.sent, server.ready), (PAGE, ()))

    def test_the_page_comes_once(self):
        server = Server(three_parts())
        server.render()
        self.assertEqual((server.render(), server.render(), server.sent), ("", "", PAGE))

    def test_an_empty_page_comes_once(self):
        server = Server(program_of(component()))
        self.assertEqual((server.render(), server.render(), server.sent), ("- !", "", "- !"))

    def test_parts_before_the_page(self):
        server = Server(three_parts())
        self.assertEqual((server.resolve(2), server.sent, server.ready), ("", "", (2,)))
        self.assertEqual((server.resolve(0), server.sent, server.ready), ("", "", (0, 2)))
        found = server.render()
        self.assertEqual(found, PAGE.replace("{0}", TEXTS[0]).replace("{2}", TEXTS[2]))
        self.assertEqual((server.sent, server.ready), (found, (0, 2)))

    def test_parts_behind_the_page_in_each_order(self):
        for order in itertools.permutations(range(3)):
            server = Server(three_parts())
            server.render()
            for many, number in enumerate(order):
                self.assertEqual(server.resolve(number), TEXTS[number])
                self.assertEqual(server.ready, tuple(sorted(order[:many + 1])))
                self.assertEqual(server.sent, PAGE + "".join(TEXTS[one] for one in order[:many + 1]))

    def test_parts_more_than_once(self):
        server = Server(three_parts())
        server.resolve(1)
        self.assertEqual((server.resolve(1), server.ready), ("", (1,)))
        page = server.render()
        self.assertEqual((server.resolve(1), server.sent, server.ready), ("", page, (1,)))
        self.assertEqual(server.resolve(0), TEXTS[0])
        self.assertEqual((server.resolve(0), server.resolve(1)), ("", ""))
        self.assertEqual((server.sent, server.ready), (page + TEXTS[0], (0, 1)))
        self.assertEqual(server.render(), "")

    def test_before_and_behind(self):
        for before in itertools.permutations(range(3), 2):
            last = [number for number in range(3) if number not in before][0]
            server = Server(three_parts())
            for number in before:
                server.resolve(number)
            page = server.render()
            self.assertEqual(server.resolve(last), TEXTS[last])
            self.assertEqual((server.sent, server.ready), (page + TEXTS[last], (0, 1, 2)))

    def test_two_servers_are_two(self):
        one, other = Server(three_parts()), Server(three_parts())
        one.render()
        one.resolve(0)
        self.assertEqual((other.sent, other.ready), ("", ()))


class PartTest(unittest.TestCase):
    def test_it_is_made_from_the_first_store_and_initial_values(self):
        # The actions and the field could change what the part shows; the server knows of no deeds.
        steps = (("put", 0, num(9)), ("set", 0, num(9)))
        inner = component((box(show(store(0)), show(cell(0)), action=0), ("input", "f", 1)), (3, 4), (steps,))
        program = program_of(component((part(0),)), inner, store=(2,), parts=(1,))
        server = Server(program)
        server.render()
        self.assertEqual(server.resolve(0), "{0:0 (a0/- b 0 '2''3')<a1/- f 1 4>}")

    def test_two_parts_of_the_same_component(self):
        program = program_of(component((part(1), part(0))), component((show(cell(0)),), (8,)), parts=(1, 1))
        server = Server(program)
        server.render()
        self.assertEqual((server.resolve(1), server.resolve(0)), ("{1:- '8'}", "{0:- '8'}"))

    def test_its_children_and_reads(self):
        inner = component((each(num(2), child(2, index(), key=index())), show(store(1))))
        last = component((show(store(0)), show(prop(0))))
        program = program_of(component((box(box(part(0))),)), inner, last, store=(5, 6), parts=(1,))
        server = Server(program)
        server.render()
        self.assertEqual(
            server.resolve(0), "{0:1 [k0.0=0 2 0 0 '5''0'][k0.0=1 2 1 0 '5''1']'6'}",
        )

    def test_the_example(self):
        server = Server(example())
        page = server.render()
        self.assertEqual((server.resolve(0), server.sent), ("{0:0 '5'}", page + "{0:0 '5'}"))

    def test_it_is_that_of_the_first_page_with_this_part(self):
        for seed in range(80):
            program = Maker(seed).program()
            parts = range(len(program[3]))
            for order in itertools.permutations(parts):
                server = Server(program)
                self.assertEqual(server.render(), write_page(page_of(program, first_world(program, ()))))
                for number in order:
                    self.assertEqual(server.resolve(number), self.part(program, number), (seed, order))

    def part(self, program, number):
        """The part by itself: a page of all parts has it as well, and no other part matters."""
        everything = tuple(range(len(program[3])))
        page = make_page(program, program[2], (), everything)
        rows = [page[1]]
        while rows:
            for node in rows.pop():
                if node[0] == "child" and node[1][-1] == part(number):
                    told = {path: (reads, props) for path, _, props, reads in components_of(page)}
                    self.assertEqual(told[node[1]], (node[4], ()))
                    return write_part(number, node[4], node[5])
                if node[0] == "box":
                    rows.append(node[5])

    def test_pages_with_parts_ready_before(self):
        for seed in range(80):
            program = Maker(seed).program()
            parts = tuple(range(len(program[3])))
            for many in range(len(parts) + 1):
                for ready in itertools.combinations(parts, many):
                    server = Server(program)
                    for number in reversed(ready):
                        server.resolve(number)
                    page = page_of(program, first_world(program, ready))
                    self.assertEqual((server.render(), server.ready), (write_page(page), ready))

    def test_what_is_sent_can_be_read(self):
        for seed in range(80):
            program = Maker(seed).program()
            parts = tuple(range(len(program[3])))
            server = Server(program)
            for number in parts[:1]:
                server.resolve(number)
            server.render()
            for number in parts:
                server.resolve(number)
            _, _, _, whole, behind = read(server.sent)
            self.assertTrue(whole)
            self.assertEqual([(one[0], one[3]) for one in behind], [(number, True) for number in parts[1:]])


if __name__ == "__main__":
    unittest.main()
