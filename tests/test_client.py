"""[w3] what is taken in, [w4] drawings, [w6] who is awake, [w7] numbers, [w8] slices, [w9] codes."""

import itertools
import unittest

from clients import Chance, all_of, client_of, find, server_of, texts_of
from pagewake.client import Client
from pagewake.deeds import run
from pagewake.pages import sight
from pagewake.worlds import first_world, page_of
from programs import LivelyMaker, at, box, cell, child, component, each, example, index, key, num, part, program_of
from programs import prop, show, store, text


def shift(at, by):
    """An action that makes the decimal digits of a cell longer by one."""
    ten = cell(at)
    for _ in range(3):
        ten = ("plus", ten, ten)
    return (("set", at, ("plus", ("plus", ten, ("plus", cell(at), cell(at))), num(by))),)


def row_of_actions(many=4):
    """A page that shows a cell; the box a, b, .. writes the digit 1, 2, .. behind its digits."""
    boxes = [box(text("do " + str(number)), tag="abcd"[number], action=number) for number in range(many)]
    return program_of(component((show(cell(0)), *boxes), (0,), tuple(shift(0, number + 1) for number in range(many))))


def do(client, tag, urgent):
    return client.event(find(client, "box", tag), urgent)


def seen_behind(client, program, first=()):
    """The sight of the page behind the deeds that are taken in."""
    deeds = tuple(client.deeds[number][0] for number in client.taken)
    return sight(page_of(program, run(program, first, deeds))[1])


class TakenTest(unittest.TestCase):
    """[w3]"""

    def test_at_first(self):
        client = client_of(row_of_actions(), start=False)
        self.assertEqual((client.taken, client.world, client.whole), ((), first_world(row_of_actions(), ()), True))
        self.assertEqual((client.started, client.record, client.awake), (False, (), ()))

    def test_nothing_is_drawn_before_the_page_is_whole(self):
        sent = server_of(row_of_actions()).sent
        client = Client(row_of_actions())
        client.start()
        client.code(0)
        self.assertTrue(client.started)
        for sign in sent[:-1]:
            client.feed(sign)
            self.assertEqual((client.work(9), client.world, client.wants(), client.whole), (False, None, (), False))
        client.event(1, True)
        self.assertEqual((client.work(9), client.taken, client.record), (False, (), ()))
        client.feed(sent[-1])
        self.assertEqual((client.world, client.taken), (first_world(row_of_actions(), ()), ()))
        self.assertEqual((client.work(2), client.taken, texts_of(client)[0]), (True, (0,), "1"))

    def test_nothing_is_drawn_before_the_start(self):
        client = client_of(row_of_actions(), start=False, codes=())
        do(client, "a", True)
        for _ in range(2):
            self.assertEqual((client.work(9), client.wants(), client.taken), (False, (), ()))
        client.start()
        self.assertEqual((client.wants(), client.taken), ((), ()))
        self.assertEqual((client.work(9), client.wants()), (False, (0,)))

    def test_at_rest(self):
        client = client_of(row_of_actions(), start=False)
        self.assertFalse(client.work(0))
        client.start()
        client.start()
        self.assertTrue(client.work(0))
        do(client, "a", False)
        self.assertFalse(client.work(0))
        self.assertTrue(client.work(9))

    def test_the_parts_that_were_present(self):
        first = component((part(0), part(1), show(store(0)), box(text("x"), action=0)), (), ((("put", 0, num(9)),),))
        program = program_of(first, component((show(store(0)),)), store=(1,), parts=(1, 1))
        client = client_of(program, (1,))
        self.assertEqual(client.world, first_world(program, (1,)))
        do(client, "b", True)
        client.work(9)
        self.assertEqual(client.world, run(program, (1,), (client.deeds[0][0],)))
        self.assertEqual((client.world[3], texts_of(client)), ((1,), ["9", "9", "x"]))


class DrawingTest(unittest.TestCase):
    """[w4]"""

    def test_an_urgent_one_takes_in_the_urgent_deeds(self):
        client = client_of(row_of_actions())
        for tag, urgent in (("a", False), ("b", True), ("c", False), ("d", True)):
            do(client, tag, urgent)
        self.assertFalse(client.work(2))
        self.assertEqual((client.taken, texts_of(client)[0]), ((1, 3), "24"))
        self.assertTrue(client.work(1))
        self.assertEqual((client.taken, texts_of(client)[0]), ((0, 1, 2, 3), "234"))
        self.assertEqual([commit[1:6] for commit in client.record], [
            (True, 4, 4, (1, 3), (((), 2),)), (False, 4, 4, (0, 1, 2, 3), (((), 1),)),
        ])

    def test_deeds_are_done_in_their_order(self):
        client = client_of(row_of_actions(2))
        do(client, "a", False)
        client.work(9)
        do(client, "b", False)
        do(client, "a", True)
        self.assertEqual((client.work(1), client.taken, texts_of(client)[0]), (False, (0, 2), "11"))
        self.assertEqual((client.work(1), client.taken, texts_of(client)[0]), (True, (0, 1, 2), "121"))

    def test_a_late_one_takes_in_all(self):
        client = client_of(row_of_actions())
        do(client, "a", False)
        do(client, "b", False)
        self.assertEqual((client.work(2), client.taken, texts_of(client)[0]), (True, (0, 1), "12"))
        self.assertEqual(client.record, (("commit", False, 2, 2, (0, 1), (((), 2),), (), ()),))

    def test_a_late_one_is_dropped_for_an_urgent_deed(self):
        client = client_of(row_of_actions())
        do(client, "a", False)
        self.assertFalse(client.work(1))
        do(client, "b", True)
        self.assertEqual((client.work(1), client.taken, client.record), (False, (), ()))
        self.assertEqual((client.work(1), client.taken, texts_of(client)[0]), (False, (1,), "2"))
        self.assertEqual((client.work(1), client.taken, texts_of(client)[0]), (True, (0, 1), "12"))
        self.assertEqual(client.record, (
            ("commit", True, 2, 2, (1,), (((), 2),), (), ()), ("commit", False, 2, 2, (0, 1), (((), 1),), (), ()),
        ))

    def test_each_kind_of_urgent_deed_drops_it(self):
        first = component((part(0), ("input", "f", 0), box(text("x"), action=0)), (1,), ((("set", 0, num(5)),),))
        program = program_of(first, component((text("y"),)), parts=(1,))
        for kind in ("event", "enter", "part"):
            server = server_of(program)
            client = client_of(program)
            do(client, "b", False)
            client.work(1)
            if kind == "event":
                do(client, "b", True)
            elif kind == "enter":
                client.enter(0, 5)
            else:
                client.feed(server.resolve(0))
            client.work(1)
            self.assertNotIn(0, client.taken, kind)
            client.work(9)
            self.assertEqual((client.record[0][1:5], client.taken), ((True, 2, 2, (1,)), (0, 1)), kind)

    def test_a_part_that_has_not_ended_drops_nothing(self):
        server = server_of(example())
        client = client_of(example())
        do(client, "p", False)
        client.work(1)
        client.feed(server.resolve(0)[:-1])
        self.assertEqual((client.work(1), client.taken), (True, (0,)))

    def test_dropping_leaves_no_trace(self):
        first = component((each(cell(0), child(1, key=index())), box(text("x"), action=0)), (1,), (
            (("set", 0, ("plus", cell(0), num(1))),),
        ))
        program = program_of(first, component((text("y"), ("input", "f", 0)), (3,)))
        dropped, plain = client_of(program), client_of(program)
        # Both have the deeds (late, urgent); one has made calls for the late one before the urgent one comes.
        do(dropped, "b", False)
        self.assertFalse(dropped.work(2))
        before = (dropped.nodes(), dropped.world, dropped.awake, dropped.taken, dropped.record)
        do(dropped, "b", True)
        self.assertEqual((dropped.nodes(), dropped.world, dropped.awake, dropped.taken, dropped.record), before)
        do(plain, "b", False)
        do(plain, "b", True)
        for client in (dropped, plain):
            while not client.work(1):
                pass
        self.assertEqual(dropped.record, plain.record)
        self.assertEqual((dropped.nodes(), dropped.awake), (plain.nodes(), plain.awake))

    def test_it_is_dropped_when_work_is_called_next(self):
        # Until then it is under way and wants what it wants.
        first = component((child(1), box(text("x"), tag="p", action=0)), (1,), ((("set", 0, num(5)),),))
        second = component((box(text("y"), tag="q", action=0),), (1,), ((("set", 0, num(5)),),))
        client = client_of(program_of(first, second), codes=())
        do(client, "q", False)
        self.assertEqual((client.work(5), client.wants()), (False, (1,)))
        do(client, "p", True)
        self.assertEqual(client.wants(), (1,))
        self.assertEqual((client.work(0), client.wants()), (False, (0,)))

    def test_a_late_deed_drops_nothing(self):
        client = client_of(row_of_actions())
        do(client, "a", False)
        client.work(1)
        do(client, "b", False)
        self.assertEqual((client.work(1), client.taken, texts_of(client)[0]), (False, (0,), "1"))
        self.assertEqual((client.work(1), client.taken, texts_of(client)[0]), (True, (0, 1), "12"))
        self.assertEqual([commit[1:5] for commit in client.record], [(False, 1, 2, (0,)), (False, 2, 2, (0, 1))])

    def test_an_urgent_one_is_not_dropped(self):
        client = client_of(row_of_actions())
        do(client, "a", True)
        client.work(1)
        do(client, "b", True)
        do(client, "c", False)
        self.assertEqual((client.work(1), client.taken, texts_of(client)[0]), (False, (0,), "1"))
        self.assertEqual((client.work(1), client.taken, texts_of(client)[0]), (False, (0, 1), "12"))
        self.assertEqual((client.work(1), client.taken, texts_of(client)[0]), (True, (0, 1, 2), "123"))
        self.assertEqual([commit[1:4] for commit in client.record], [(True, 1, 3), (True, 3, 3), (False, 3, 3)])

    def test_urgencies_in_every_order(self):
        for urgencies in itertools.product((True, False), repeat=4):
            program = row_of_actions()
            client = client_of(program)
            for tag, urgent in zip("abcd", urgencies):
                do(client, tag, urgent)
            urgent = tuple(number for number in range(4) if urgencies[number])
            while not client.work(1):
                self.assertIn(client.taken, ((), urgent))
                self.assertEqual(client.sight(), seen_behind(client, program))
            self.assertEqual((client.taken, texts_of(client)[0]), ((0, 1, 2, 3), "234"))
            taken = [commit[4] for commit in client.record]
            self.assertEqual(taken, [one for one in (urgent,) if one and len(one) < 4] + [(0, 1, 2, 3)])


class AwakeTest(unittest.TestCase):
    """[w5] and [w6] in a client."""

    def program(self):
        """Children by a count, with keys; each has a button of its own; a put wakes those that read the place."""
        first = component((
            each(cell(0), child(1, key=index())), box(text("less"), tag="less", action=0),
            box(text("more"), tag="more", action=1), box(text("put"), tag="put", action=2), child(2),
        ), (2,), (
            (("set", 0, ("minus", cell(0), num(1))),), (("set", 0, ("plus", cell(0), num(1))),), (("put", 0, num(9)),),
        ))
        second = component((box(show(cell(0)), action=0),), (4,), ((("set", 0, ("plus", cell(0), num(1))),),))
        return program_of(first, second, component((show(store(0)),)), store=(1,))

    def test_all_sleep_at_first(self):
        client = client_of(self.program())
        self.assertEqual((client.work(9), client.awake), (True, ()))

    def test_one_that_sleeps_is_called_twice_and_then_once(self):
        client = client_of(self.program())
        first = (key(0, 0, 0),)
        for calls in (2, 1, 1):
            do(client, "b", True)
            self.assertFalse(client.work(calls - 1))
            self.assertTrue(client.work(1))
            self.assertEqual((client.record[-1][5], client.awake), (((first, calls),), (first,)))

    def test_awake_from_the_commit_on(self):
        client = client_of(self.program())
        do(client, "b", True)
        client.work(1)
        self.assertEqual(client.awake, ())
        client.work(1)
        self.assertEqual(client.awake, ((key(0, 0, 0),),))

    def test_in_the_order_of_the_page(self):
        client = client_of(self.program())
        for tag in ("put", "more", "b"):
            do(client, tag, True)
            client.work(9)
        self.assertEqual(client.awake, ((), (key(0, 0, 0),), (key(2, 0, 0),), (at(4),)))
        self.assertEqual([commit[5] for commit in client.record], [
            (((at(4),), 2),), (((), 2), ((key(2, 0, 0),), 1)), (((key(0, 0, 0),), 2),),
        ])

    def test_new_ones_are_awake(self):
        client = client_of(self.program())
        do(client, "more", True)
        client.work(9)
        self.assertEqual(client.awake, ((), (key(2, 0, 0),)))
        self.assertEqual(client.record[-1][5:], ((((), 2), ((key(2, 0, 0),), 1)), (11, 12), ()))

    def test_those_that_leave_are_forgotten(self):
        client = client_of(self.program())
        last = (key(1, 0, 0),)
        boxes = [node[1] for node in all_of(client.nodes()) if node[2] == "b"]
        client.event(boxes[1], True)
        client.work(9)
        self.assertEqual(client.awake, (last,))
        do(client, "less", True)
        client.work(9)
        self.assertEqual((client.awake, client.record[-1][5]), (((),), (((), 2),)))
        do(client, "more", True)
        client.work(9)
        self.assertEqual((client.awake, client.record[-1][5]), (((), last), (((), 1), (last, 1))))
        self.assertEqual(texts_of(client)[:2], ["4", "4"])

    def test_one_that_left_and_comes_asleep_or_awake_is_new(self):
        client = client_of(self.program())
        for tag in ("less", "more"):
            do(client, tag, True)
            client.work(9)
        self.assertEqual(client.record[-1][5], (((), 1), ((key(1, 0, 0),), 1)))

    def test_one_that_leaves_and_comes_within_a_drawing_stays(self):
        client = client_of(self.program())
        do(client, "b", True)
        client.work(9)
        do(client, "less", False)
        do(client, "more", False)
        self.assertEqual((client.work(0), client.record[-1][5], client.awake), (True, (), ((key(0, 0, 0),),)))

    def test_nothing_is_called_for_a_part(self):
        server = server_of(example())
        client = client_of(example())
        client.feed(server.resolve(0))
        self.assertEqual((client.work(0), client.awake, texts_of(client)), (True, (), ["n ", "0", "5", "5"]))
        self.assertEqual(client.record, (("commit", True, 1, 1, (0,), (), (4,), ()),))

    def test_a_part_whose_store_has_changed_is_called_twice(self):
        first = component((part(0), box(text("x"), action=0)), (), ((("put", 0, num(9)),),))
        program = program_of(first, component((show(store(0)), child(2, store(0)))), component((text("y"),)),
                             store=(1,), parts=(1,))
        client = client_of(program)
        do(client, "b", True)
        self.assertTrue(client.work(0))
        client.feed(server_of(program).resolve(0))
        path = (part(0),)
        self.assertFalse(client.work(2))
        self.assertTrue(client.work(2))
        self.assertEqual(client.record[-1][5], ((path, 2), (path + (at(1),), 2)))
        self.assertEqual(client.awake, (path, path + (at(1),)))


class NumbersTest(unittest.TestCase):
    """[w7] in a client."""

    def program(self):
        first = component((
            each(cell(0), box(show(index()), text("in"), key=index())), box(text("less"), tag="less", action=0),
            box(text("more"), tag="more", action=1),
        ), (2,), ((("set", 0, ("minus", cell(0), num(1))),), (("set", 0, ("plus", cell(0), num(1))),)))
        return program_of(first)

    def test_numbers_are_kept(self):
        client = client_of(self.program())
        before = client.nodes()
        do(client, "more", True)
        client.work(9)
        after = client.nodes()
        self.assertEqual((after[:2], after[3:]), (before[:2], before[2:]))
        self.assertEqual(after[2], ("box", 10, "b", (("text", 11, "2"), ("text", 12, "in"))))
        self.assertEqual(client.record[-1][6:], ((10, 11, 12), ()))

    def test_what_goes_and_comes_has_other_numbers(self):
        client = client_of(self.program())
        gone = client.nodes()[1]
        self.assertEqual(gone, ("box", 3, "b", (("text", 4, "1"), ("text", 5, "in"))))
        do(client, "less", True)
        client.work(9)
        self.assertEqual(client.record[-1][6:], ((), (3, 4, 5)))
        do(client, "more", True)
        client.work(9)
        self.assertEqual(client.record[-1][6:], ((10, 11, 12), ()))
        self.assertEqual(client.nodes()[1], ("box", 10, "b", (("text", 11, "1"), ("text", 12, "in"))))
        self.assertFalse(client.event(3, True))

    def test_texts_that_change_keep_their_numbers(self):
        client = client_of(row_of_actions())
        do(client, "a", True)
        client.work(9)
        self.assertEqual((client.nodes()[0], client.record[-1][6:]), (("text", 0, "1"), ((), ())))

    def test_a_part_gets_numbers_with_its_commit(self):
        program = program_of(
            component((part(0), text("a"), box(part(1)))), component((text("b"), box(text("c")))), parts=(1, 1),
        )
        client = client_of(program, behind=(1, 0))
        self.assertEqual(client.nodes(), (("text", 0, "a"), ("box", 1, "b", ())))
        self.assertTrue(client.work(0))
        # Both come with one commit: in the order of the page.
        self.assertEqual(client.nodes(), (
            ("text", 2, "b"), ("box", 3, "b", (("text", 4, "c"),)), ("text", 0, "a"),
            ("box", 1, "b", (("text", 5, "b"), ("box", 6, "b", (("text", 7, "c"),)))),
        ))

    def test_over_chance_runs(self):
        for seed in range(500, 530):
            maker = LivelyMaker(seed)
            runs = Chance(maker, maker.program())
            client = runs.client
            earlier, record = {}, 0
            for _ in range(40):
                runs.step()
                numbers = [node[1] for node in all_of(client.nodes())]
                self.assertEqual(len(numbers), len({*numbers}))
                known = {node[1]: node[0] for node in all_of(client.nodes())}
                if client.whole and len(client.record) == record + 1 and earlier:
                    made, gone = client.record[-1][6:]
                    self.assertEqual(sorted({*known} - {*earlier}), list(made))
                    self.assertEqual(sorted({*earlier} - {*known}), list(gone))
                record, earlier = len(client.record), known if client.whole else {}


class SlicesTest(unittest.TestCase):
    """[w8]"""

    def program(self):
        first = component((
            each(num(3), child(1, cell(0), key=index())), box(text("x"), tag="x", action=0),
            box(text("y"), tag="y", action=1),
        ), (0,), ((("set", 0, ("plus", cell(0), num(1))),), ()))
        return program_of(first, component((show(prop(0)),)))

    def test_at_most_so_many_calls(self):
        client = client_of(self.program())
        do(client, "x", True)
        # Four components that sleep: eight calls.
        for _ in range(7):
            self.assertEqual((client.work(1), texts_of(client)[:3]), (False, ["0", "0", "0"]))
        self.assertEqual((client.work(1), texts_of(client)[:3]), (True, ["1", "1", "1"]))

    def test_slices_of_many_sizes(self):
        for size in range(1, 9):
            client = client_of(self.program())
            do(client, "x", True)
            many = 1
            while not client.work(size):
                self.assertEqual(client.taken, ())
                many += 1
            self.assertEqual(many, -(-8 // size), size)

    def test_slices_of_no_calls(self):
        client = client_of(self.program())
        do(client, "x", True)
        for _ in range(3):
            self.assertEqual((client.work(0), client.taken), (False, ()))
        self.assertFalse(client.work(7))
        self.assertFalse(client.work(0))
        self.assertTrue(client.work(1))

    def test_a_drawing_without_calls_is_committed_at_once(self):
        client = client_of(self.program())
        do(client, "y", False)
        self.assertEqual((client.work(0), client.taken), (True, (0,)))
        self.assertEqual(client.record, (("commit", False, 1, 1, (0,), (), (), ()),))

    def test_one_drawing_behind_another(self):
        client = client_of(self.program())
        do(client, "x", False)
        do(client, "x", True)
        self.assertEqual((client.work(11), client.taken), (False, (1,)))
        self.assertEqual((client.work(1), client.taken), (True, (0, 1)))
        client = client_of(self.program())
        do(client, "x", False)
        do(client, "x", True)
        self.assertEqual((client.work(12), client.taken), (True, (0, 1)))

    def test_with_no_call_left_a_drawing_is_begun(self):
        client = client_of(self.program())
        do(client, "x", False)
        do(client, "x", True)
        self.assertFalse(client.work(8))
        self.assertEqual((client.taken, client.record[-1][2:4]), ((1,), (2, 2)))
        do(client, "y", False)
        # The drawing that was begun then takes in the two deeds that had come.
        self.assertEqual((client.work(4), client.taken), (True, (0, 1, 2)))
        self.assertEqual([commit[2:5] for commit in client.record], [(2, 2, (1,)), (2, 3, (0, 1)), (3, 3, (0, 1, 2))])

    def test_with_no_call_left_one_without_calls_is_committed(self):
        client = client_of(self.program())
        do(client, "y", False)
        do(client, "x", True)
        self.assertEqual((client.work(8), client.taken), (True, (0, 1)))
        self.assertEqual([commit[5] != () for commit in client.record], [True, False])

    def test_a_drawing_begins_with_the_deeds_that_have_come(self):
        client = client_of(self.program())
        do(client, "x", True)
        client.work(0)
        do(client, "x", True)
        self.assertEqual((client.work(8), client.taken), (False, (0,)))
        self.assertEqual(client.record[-1][2:5], (1, 2, (0,)))

    def test_slices_joined_give_the_same(self):
        for seed in range(600, 640):
            maker = LivelyMaker(seed)
            program = maker.program()
            sizes = (1, 2, 3, 1000)
            clients = [client_of(program, behind=tuple(range(len(program[3])))) for _ in sizes]
            for _ in range(5):
                numbers = [node[1] for node in all_of(clients[0].nodes())] or [0]
                number, urgent = maker.chance.choice(numbers), maker.chance.randrange(2) == 0
                for client, size in zip(clients, sizes):
                    client.event(number, urgent)
                    while not client.work(size):
                        pass
            for client in clients[1:]:
                self.assertEqual((client.record, client.nodes()), (clients[0].record, clients[0].nodes()))


class CodesTest(unittest.TestCase):
    """[w9]"""

    def program(self):
        """Component 0 with children of 1 and 2; 1 has an up to 0; 2 reads the store; 3 is in a part."""
        first = component((child(1), child(2), box(text("x"), tag="x", action=0), part(0)), (0,), (
            (("put", 0, num(5)),), (("set", 0, num(8)),), (),
        ))
        boxes = (box(text("up"), tag="up", action=0), box(text("no"), tag="no", action=3))
        second = component(boxes, (), ((("up", 1),),))
        third = component((show(store(0)), box(text("y"), tag="y", action=0)), (), ((),))
        return program_of(first, second, third, component((show(store(1)),)), store=(1, 2), parts=(3,))

    def wanted(self, *tags, codes=()):
        client = client_of(self.program(), codes=codes)
        for tag in tags:
            do(client, tag, True)
        client.work(9)
        return client.wants()

    def test_none_is_wanted_at_first(self):
        client = client_of(self.program(), codes=())
        self.assertEqual((client.wants(), client.work(9), client.wants()), ((), True, ()))

    def test_none_before_a_drawing_is_under_way(self):
        client = client_of(self.program(), codes=())
        do(client, "x", True)
        self.assertEqual(client.wants(), ())
        client.work(0)
        self.assertEqual(client.wants(), (0, 2))

    def test_of_those_that_act(self):
        self.assertEqual(self.wanted("y"), (2,))
        self.assertEqual(self.wanted("up"), (0, 1))

    def test_of_those_that_are_needed(self):
        # The page's own component acts; that of 2 reads what it puts.
        self.assertEqual(self.wanted("x"), (0, 2))

    def test_of_several_deeds(self):
        self.assertEqual(self.wanted("x", "up", "y"), (0, 1, 2))

    def test_none_for_an_action_that_is_not_there(self):
        client = client_of(self.program(), codes=())
        self.assertTrue(do(client, "no", True))
        self.assertEqual((client.work(0), client.wants(), client.taken), (True, (), (0,)))

    def test_none_for_fields_and_parts_alone(self):
        client = client_of(self.program(), behind=(0,), codes=())
        self.assertEqual((client.work(0), client.wants(), client.taken), (True, (), (0,)))

    def test_those_that_have_come_are_not_wanted(self):
        self.assertEqual(self.wanted("x", "up", codes=(0,)), (1, 2))
        self.assertEqual(self.wanted("x", "up", codes=(2, 1)), (0,))

    def test_codes_that_come_late(self):
        client = client_of(self.program(), codes=())
        before = client.nodes()
        do(client, "x", True)
        do(client, "up", True)
        for number, rest in ((2, (0, 1)), (0, (1,)), (3, (1,))):
            self.assertFalse(client.work(99))
            client.code(number)
            self.assertEqual((client.wants(), client.taken, client.record, client.nodes()), (rest, (), (), before))
        self.assertFalse(client.work(99))
        client.code(1)
        self.assertEqual((client.wants(), client.taken), ((), ()))
        # No call was made before: the page's own component and that of 2 have two calls each.
        self.assertFalse(client.work(3))
        self.assertTrue(client.work(1))
        self.assertEqual((client.wants(), client.taken), ((), (0, 1)))

    def test_a_drawing_without_calls_waits_as_well(self):
        client = client_of(self.program(), codes=())
        do(client, "y", False)
        self.assertEqual((client.work(9), client.taken, client.wants()), (False, (), (2,)))
        client.code(2)
        self.assertEqual((client.work(0), client.taken, client.record[0][5]), (True, (0,), ()))

    def test_codes_rise_and_stay(self):
        client = client_of(self.program(), codes=(3, 1, 3, 0))
        self.assertEqual(client.codes, (0, 1, 3))
        client.code(1)
        client.code(2)
        self.assertEqual(client.codes, (0, 1, 2, 3))
        self.assertEqual(Client(self.program()).codes, ())

    def test_codes_before_the_page(self):
        client = Client(self.program())
        client.code(0)
        client.code(2)
        client.feed(server_of(self.program()).sent)
        client.start()
        do(client, "x", True)
        self.assertEqual((client.work(9), client.wants()), (True, ()))

    def test_deeds_that_are_taken_in_count_again(self):
        # In the plain run of both deeds the first one, late, makes the second one do the action of a new component.
        inner = component((box(text("y"), tag="y", action=0),), (1,), ((("set", 0, num(2)),),))
        first = component((
            child(2), box(text("x"), tag="x", action=0), ("when", cell(0), (child(1),), ()),
        ), (0,), ((("set", 0, num(1)),),))
        client = client_of(program_of(first, inner, inner), codes=())
        do(client, "x", False)
        self.assertEqual((client.work(9), client.wants()), (False, (0, 1)))
        do(client, "y", True)
        self.assertEqual((client.work(9), client.wants()), (False, (2,)))
        client.code(2)
        self.assertEqual((client.work(9), client.taken, client.wants()), (False, (1,), (0, 1)))
        client.code(1)
        client.code(0)
        self.assertTrue(client.work(9))

    def test_each_deed_in_the_world_that_it_is_done_in(self):
        # The deed of the child is done nowhere once the urgent deed before it has taken the child away.
        inner = component((box(text("y"), tag="y", action=0),), (1,), ((("set", 0, num(2)),),))
        first = component((
            box(text("x"), tag="x", action=0), ("when", cell(0), (child(1),), ()),
        ), (1,), ((("set", 0, num(0)),),))
        client = client_of(program_of(first, inner), codes=())
        do(client, "x", True)
        do(client, "y", True)
        self.assertEqual((client.work(9), client.wants()), (False, (0,)))
        client = client_of(program_of(first, inner), codes=())
        do(client, "y", True)
        do(client, "x", True)
        self.assertEqual((client.work(9), client.wants()), (False, (0, 1)))

    def test_a_dropped_drawing_wants_nothing_more(self):
        client = client_of(self.program(), codes=())
        do(client, "up", False)
        self.assertEqual((client.work(9), client.wants()), (False, (0, 1)))
        do(client, "y", True)
        self.assertEqual((client.work(9), client.wants()), (False, (2,)))
        client.code(2)
        self.assertEqual((client.work(9), client.taken, client.wants()), (False, (1,), (0, 1)))


if __name__ == "__main__":
    unittest.main()
