"""[w1] what is shown while the page comes, [w2] deeds and what fields show."""

import unittest

from clients import all_of, client_of, find, server_of, texts_of, values_of
from pagewake.client import Client
from pagewake.deeds import field, meaning
from pagewake.pages import flat, shown
from pagewake.worlds import first_world, page_of
from programs import Maker, at, box, cell, child, component, each, index, key, num, part, program_of, prop, show
from programs import store, text

GROWN = (("set", 0, ("plus", cell(0), num(1))),)


def fed(program, told):
    client = Client(program)
    client.feed(told)
    return client


def numbered_places(tree):
    """The tree without numbers, and the numbers in the order of the page."""
    return [node[1] for node in all_of(tree)]


class BeginningTest(unittest.TestCase):
    def program(self):
        first = component((
            box(text("a"), box(show(cell(0)), key=num(3)), part(0), action=0), each(num(2), child(1, index())),
            ("input", "f", 0), part(1), text("z"),
        ), (7,), (GROWN,))
        second = component((show(prop(0)), box(text("in"), tag="q", action=0)), (), ((),))
        return program_of(first, second, parts=(1, 1))

    def test_nothing_at_first(self):
        client = Client(self.program())
        self.assertEqual((client.nodes(), client.sight()), ((), ()))
        self.assertEqual(
            (client.deeds, client.taken, client.awake, client.started, client.whole, client.world, client.codes,
             client.record),
            ((), (), (), False, False, None, (), ()),
        )
        self.assertEqual((client.wants(), client.work(5)), ((), False))
        self.assertEqual((client.event(0, True), client.enter(0, 1)), (False, False))

    def test_node_by_node(self):
        told = "- (a0/- b 0 'a'(k1=3 b - '7'){0})[a1.0/0 1 0 - '0'(a1/- q 0 'in')][a1.0/1 1 1 - "
        outer = (("box", 0, "b", (("text", 1, "a"), ("box", 2, "b", (("text", 3, "7"),)))),)
        expected = (
            ("- (a0/- b 0", ()),
            ("- (a0/- b 0 ", (("box", 0, "b", ()),)),
            ("- (a0/- b 0 'a", (("box", 0, "b", ()),)),
            ("- (a0/- b 0 'a'", (("box", 0, "b", (("text", 1, "a"),)),)),
            ("- (a0/- b 0 'a'(k1=3 b - ", (("box", 0, "b", (("text", 1, "a"), ("box", 2, "b", ()))),)),
            ("- (a0/- b 0 'a'(k1=3 b - '7'){0", outer),
        )
        for beginning, nodes in expected:
            self.assertTrue(told.startswith(beginning))
            self.assertEqual(fed(self.program(), beginning).nodes(), nodes, beginning)
        inner = (("text", 4, "0"), ("box", 5, "q", (("text", 6, "in"),)))
        self.assertEqual(fed(self.program(), told).nodes(), outer + inner)

    def test_places_and_children_are_not_shown(self):
        server = server_of(self.program())
        client = fed(self.program(), server.sent)
        self.assertEqual(numbered_places(client.nodes()), list(range(12)))
        self.assertEqual(texts_of(client), ["a", "7", "0", "in", "1", "in", "z"])
        self.assertEqual(values_of(client), [7])

    def test_parts_that_are_present_are_shown_as_they_come(self):
        server = server_of(self.program(), (0,))
        told = server.sent[:server.sent.index("q 0 'in')}")]
        self.assertEqual(texts_of(fed(self.program(), told)), ["a", "7", "0"])
        client = fed(self.program(), told + "q 0 'in'")
        self.assertEqual(texts_of(client), ["a", "7", "0", "in"])
        self.assertTrue(client.event(6, True))
        self.assertEqual(client.deeds, ((("act", (at(0), part(0)), 0), True),))

    def test_every_beginning_of_a_stream(self):
        for seed in range(12):
            program = Maker(seed).program()
            parts = tuple(range(len(program[3])))
            for before in (parts, parts[1:]):
                server = server_of(program, before)
                for number in parts[:1]:
                    server.resolve(number)
                self.check_beginnings(program, before, server.sent)

    def check_beginnings(self, program, before, sent):
        """Whatever the cut: the first nodes of the page, numbered in its order, and all of them when it is whole."""
        page = shown(page_of(program, first_world(program, before))[1])
        whole = fed(program, sent).nodes()
        expected = [(path, kind, what) for path, kind, what in flat(page)]
        self.assertEqual([(node[0], node[2]) for node in all_of(whole)], [(kind, what) for _, kind, what in expected])
        earlier = 0
        client = Client(program)
        for many, sign in enumerate(sent):
            client.feed(sign)
            nodes = client.nodes()
            self.assertEqual(nodes, fed(program, sent[:many + 1]).nodes())
            found = all_of(nodes)
            self.assertEqual([node[1] for node in found], list(range(len(found))))
            self.assertEqual([(node[0], node[2]) for node in found], [one[1:] for one in expected[:len(found)]])
            self.assertIn(len(found) - earlier, (0, 1))
            earlier = len(found)
            self.assertEqual(client.whole, many >= sent.index("!"))
        self.assertEqual(client.nodes(), whole)

    def test_the_paths_of_what_has_begun(self):
        for seed in range(12):
            program = Maker(seed).program()
            before = tuple(range(len(program[3])))
            sent = server_of(program, before).sent
            page = shown(page_of(program, first_world(program, before))[1])
            paths = [path for path, _, _ in flat(page)]
            for cut in range(0, len(sent) + 1, 3):
                client = fed(program, sent[:cut])
                for number in range(len(all_of(client.nodes()))):
                    meant = meaning(page, paths[number])
                    deeds = client.deeds
                    self.assertEqual(client.event(number, False), meant is not None)
                    self.assertEqual(client.deeds, deeds + (((("act", *meant), False),) if meant else ()))
                    owned = field(page, paths[number])
                    deeds = client.deeds
                    self.assertEqual(client.enter(number, 4), owned is not None)
                    self.assertEqual(client.deeds, deeds + (((("enter", *owned, 4), True),) if owned else ()))

    def test_it_shows_this_as_long_as_nothing_is_committed(self):
        client = client_of(self.program(), behind=(0, 1), codes=(), start=False)
        before = client.nodes()
        self.assertEqual(client.deeds, ((("part", 0), True), (("part", 1), True)))
        client.event(0, True)
        client.start()
        self.assertEqual((client.work(100), client.wants(), client.nodes()), (False, (0,), before))


class DeedsTest(unittest.TestCase):
    def program(self):
        inner = component((box(text("b"), action=1), text("free"), ("input", "g", 2)), (5,), ((), GROWN))
        first = component((
            box(text("a"), ("input", "f", 0), child(1), tag="p", action=0), text("free"), box(text("c"), tag="q"),
            ("input", "h", 1), part(0), part(1),
        ), (7, 8), (GROWN,))
        return program_of(first, inner, parts=(1, 1))

    def test_events_before_the_page_is_whole(self):
        client = fed(self.program(), "- (a0/- p 0 'a'")
        self.assertEqual((client.event(1, False), client.event(0, True)), (True, True))
        self.assertEqual(client.deeds, ((("act", (), 0), False), (("act", (), 0), True)))

    def test_events_on_numbers_that_are_not_shown(self):
        client = fed(self.program(), "- (a0/- p 0 'a'")
        for number in (2, 3, 99):
            self.assertFalse(client.event(number, True))
            self.assertFalse(client.enter(number, 4))
        self.assertEqual(client.deeds, ())
        client.feed("<a1/- f 0 7>")
        self.assertTrue(client.event(2, True))

    def test_events_that_mean_nothing(self):
        client = client_of(self.program())
        free = [node[1] for node in client.nodes() if node[0] == "text" or node[2] in ("q", "h")]
        for number in free + [find(client, "text", "c")]:
            self.assertFalse(client.event(number, True), number)
        self.assertEqual((client.deeds, client.work(0)), ((), True))

    def test_what_events_mean(self):
        client = client_of(self.program())
        inner = ((at(0), at(2)), 1)
        for kind, what, meant in (
            ("box", "p", ((), 0)), ("text", "a", ((), 0)), ("input", "f", ((), 0)), ("box", "b", inner),
            ("text", "b", inner), ("text", "free", ((), 0)), ("input", "g", ((), 0)),
        ):
            deeds = client.deeds
            self.assertTrue(client.event(find(client, kind, what), False))
            self.assertEqual(client.deeds, deeds + ((("act", *meant), False),), (kind, what))

    def test_urgent_and_late(self):
        client = client_of(self.program())
        for urgent in (True, False, False, True):
            client.event(0, urgent)
        self.assertEqual([urgent for _, urgent in client.deeds], [True, False, False, True])

    def test_what_an_event_means_is_kept(self):
        # The second event means the action of a component that the first one takes away.
        inner = component((box(text("x"), action=0),), (1,), (GROWN,))
        first = component((
            ("when", cell(0), (child(1),), ()), box(text("off"), tag="p", action=0),
        ), (1,), ((("set", 0, num(0)),),))
        client = client_of(program_of(first, inner))
        client.event(find(client, "box", "p"), False)
        client.event(find(client, "box", "b"), False)
        self.assertEqual(client.deeds[1], (("act", (at(0, 0, 0),), 0), False))
        self.assertEqual((client.work(9), texts_of(client), client.taken), (True, ["off"], (0, 1)))
        self.assertFalse(client.event(0, True))

    def test_events_after_commits(self):
        client = client_of(self.program(), behind=(1,))
        client.work(50)
        number = [node[1] for node in all_of(client.nodes()) if node[2] == "b"][-1]
        self.assertTrue(client.event(number, True))
        self.assertEqual(client.deeds[-1], (("act", (part(1),), 1), True))

    def test_parts_behind_the_page(self):
        server = server_of(self.program())
        client = fed(self.program(), server.sent)
        first, second = server.resolve(1), server.resolve(0)
        for sign in first[:-1]:
            client.feed(sign)
            self.assertEqual(client.deeds, ())
        client.feed(first[-1])
        self.assertEqual(client.deeds, ((("part", 1), True),))
        client.event(0, False)
        client.feed(second[:-1])
        self.assertEqual(len(client.deeds), 2)
        client.feed(second[-1])
        self.assertEqual(client.deeds, ((("part", 1), True), (("act", (), 0), False), (("part", 0), True)))
        client.feed("")
        self.assertEqual(len(client.deeds), 3)

    def test_all_in_one_piece(self):
        server = server_of(self.program())
        server.resolve(1)
        server.resolve(0)
        client = fed(self.program(), server.sent)
        self.assertEqual((client.whole, client.deeds), (True, ((("part", 1), True), (("part", 0), True))))
        self.assertEqual((client.world, client.taken), (first_world(self.program(), ()), ()))

    def test_parts_that_were_present_are_no_deeds(self):
        server = server_of(self.program(), (1,))
        client = fed(self.program(), server.sent)
        self.assertEqual((client.deeds, client.world), ((), first_world(self.program(), (1,))))


class FieldsTest(unittest.TestCase):
    def program(self):
        """Two fields for the cell 0, one for the cell 1, one for a cell that is not there, and a child's."""
        first = component((
            ("input", "a", 0), ("input", "b", 0), box(("input", "c", 1), text("up"), action=0), ("input", "d", 9),
            child(1), show(cell(0)),
        ), (7, 8), (GROWN,))
        return program_of(first, component((("input", "e", 0),), (9,)))

    def enter(self, client, tag, worth):
        return client.enter(find(client, "input", tag), worth)

    def test_what_fields_show_at_first(self):
        self.assertEqual(values_of(client_of(self.program())), [7, 7, 8, 0, 9])

    def test_entered_values_are_shown_at_once_and_in_this_field_alone(self):
        client = client_of(self.program())
        self.assertTrue(self.enter(client, "a", 50))
        self.assertEqual(client.deeds, ((("enter", (), 0, 50), True),))
        self.assertEqual((values_of(client), texts_of(client)), ([50, 7, 8, 0, 9], ["up", "7"]))
        self.assertEqual(client.sight()[:2], (("input", "a", 50), ("input", "b", 7)))
        self.assertTrue(client.work(9))
        self.assertEqual((values_of(client), texts_of(client)), ([50, 50, 8, 0, 9], ["up", "50"]))

    def test_the_value_that_was_entered_last(self):
        client = client_of(self.program())
        for worth in (50, 51, 52):
            self.enter(client, "a", worth)
        self.enter(client, "b", 60)
        self.assertEqual(values_of(client), [52, 60, 8, 0, 9])
        client.work(9)
        self.assertEqual(values_of(client), [60, 60, 8, 0, 9])

    def test_in_each_kind_of_field(self):
        client = client_of(self.program())
        for tag, worth in (("c", 30), ("d", 31), ("e", 32)):
            self.assertTrue(self.enter(client, tag, worth))
        self.assertEqual(client.deeds, (
            (("enter", (), 1, 30), True), (("enter", (), 9, 31), True), (("enter", (at(4),), 0, 32), True),
        ))
        self.assertEqual(values_of(client), [7, 7, 30, 31, 32])
        client.work(9)
        self.assertEqual(values_of(client), [7, 7, 30, 0, 32])

    def test_entering_where_no_field_is(self):
        client = client_of(self.program())
        for number in (find(client, "box", "b"), find(client, "text", "up"), 77):
            self.assertFalse(client.enter(number, 3))
        self.assertEqual((client.deeds, values_of(client)), ((), [7, 7, 8, 0, 9]))

    def test_before_the_page_is_whole(self):
        sent = server_of(self.program()).sent
        cut = sent.index("<a1/-")
        client = fed(self.program(), sent[:cut])
        self.assertTrue(client.enter(0, 50))
        self.assertEqual((client.nodes(), client.sight()), ((("input", 0, "a", 50),), (("input", "a", 50),)))
        client.feed(sent[cut:])
        self.assertEqual(values_of(client), [50, 7, 8, 0, 9])
        self.assertEqual(client.world, first_world(self.program(), ()))
        client.start()
        self.assertEqual((client.work(9), client.wants(), values_of(client)), (False, (0,), [50, 7, 8, 0, 9]))
        client.code(0)
        self.assertEqual((client.work(9), values_of(client)), (True, [50, 50, 8, 0, 9]))

    def test_as_long_as_the_last_one_is_not_taken_in(self):
        client = client_of(self.program())
        self.enter(client, "a", 50)
        self.assertFalse(client.work(1))
        self.enter(client, "a", 51)
        # The drawing under way takes in the first one alone.
        self.assertFalse(client.work(1))
        self.assertEqual((client.taken, values_of(client), texts_of(client)), ((0,), [51, 50, 8, 0, 9], ["up", "50"]))
        self.assertTrue(client.work(1))
        self.assertEqual((client.taken, values_of(client)), ((0, 1), [51, 51, 8, 0, 9]))

    def test_what_is_taken_in_is_shown_as_its_cell_is(self):
        client = client_of(self.program())
        self.enter(client, "a", 50)
        client.event(find(client, "text", "up"), True)
        self.assertEqual(values_of(client)[0], 50)
        client.work(9)
        self.assertEqual(values_of(client)[:2], [51, 51])

    def test_the_field_at_the_path_counts(self):
        # The field goes with its box while its value waits, and one at its path shows the value again.
        first = component((
            ("when", cell(0), (("input", "f", 1),), ()), box(text("turn"), action=0),
        ), (1, 8), ((("set", 0, ("minus", num(1), cell(0))),),))
        client = client_of(program_of(first, component()), codes=())
        client.event(find(client, "text", "turn"), True)
        client.work(5)
        client.enter(find(client, "input", "f"), 30)
        client.code(0)
        self.assertEqual(client.work(2), False)
        self.assertEqual((client.taken, values_of(client)), ((0,), []))
        client.event(find(client, "text", "turn"), True)
        self.assertEqual((client.work(9), values_of(client)), (True, [30]))

    def test_keys_that_go_around(self):
        turning = ("minus", num(1), ("same", index(), cell(0)))
        first = component((
            each(num(2), child(1, index(), key=turning)), box(text("turn"), action=0),
        ), (0,), ((("set", 0, ("minus", num(1), cell(0))),),))
        client = client_of(program_of(first, component((show(prop(0)), ("input", "f", 0)), (6,))))
        client.enter(find(client, "input", "f"), 30)
        self.assertEqual((values_of(client), client.work(9)), ([30, 6], True))
        client.event(find(client, "text", "turn"), True)
        self.assertEqual((client.work(9), texts_of(client), values_of(client)), (True, ["0", "1", "turn"], [6, 30]))
        self.assertEqual(client.deeds[0], (("enter", (key(0, 0, 0),), 0, 30), True))

    def test_a_field_of_the_store(self):
        contents = (("input", "f", 0), show(store(0)), box(text("put"), action=0))
        first = component(contents, (6,), ((("put", 0, cell(0)),),))
        client = client_of(program_of(first, store=(1,)))
        client.event(find(client, "text", "put"), False)
        client.enter(0, 44)
        self.assertTrue(client.work(9))
        # The late deed came first, so it saw the cell as it was.
        self.assertEqual((client.taken, texts_of(client), values_of(client)), ((0, 1), ["6", "put"], [44]))


if __name__ == "__main__":
    unittest.main()
