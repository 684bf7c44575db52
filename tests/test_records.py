"""[r1] records, [r2] the judge of them."""

import unittest

from clients import Chance, client_of, find, server_of
from pagewake.deeds import run
from pagewake.pages import sight
from pagewake.records import judge, shown_behind
from pagewake.worlds import first_world, page_of
from programs import LivelyMaker, at, box, cell, child, component, each, example, index, key, num, part, program_of
from programs import show, store, text

PLACES = {"kind": 0, "urgent": 1, "begun": 2, "ended": 3, "taken": 4, "calls": 5, "made": 6, "gone": 7}


def changed(record, at, **others):
    """A record with other items in the commit at a place."""
    commit = list(record[at])
    for name, item in others.items():
        commit[PLACES[name]] = item
    return record[:at] + (tuple(commit),) + record[at + 1:]


def do(client, tag, urgent):
    return client.event(find(client, "box", tag), urgent)


class Case(unittest.TestCase):
    """A client with four commits: urgent, late, urgent, late; nodes are made and go, calls are one and two."""

    def program(self):
        first = component((
            each(cell(0), child(1, key=index())), box(text("less"), tag="less", action=0),
            box(text("more"), tag="more", action=1), part(0), ("input", "f", 1),
        ), (1, 7), (
            (("set", 0, ("minus", cell(0), num(1))),), (("set", 0, ("plus", cell(0), num(1))),),
        ))
        second = component((box(show(cell(0)), action=0),), (4,), ((("set", 0, ("plus", cell(0), num(1))),),))
        return program_of(first, second, component((text("part"),)), parts=(2,))

    def setUp(self):
        self.made = self.program()
        self.client = client_of(self.made)
        do(self.client, "b", True)
        self.client.work(9)
        do(self.client, "more", False)
        self.client.work(9)
        self.client.feed(server_of(self.made).resolve(0))
        do(self.client, "less", False)
        do(self.client, "b", True)
        self.client.work(1)
        do(self.client, "less", False)
        self.client.work(9)
        self.record = self.client.record

    def judged(self, record, tree=None, deeds=None, first=()):
        tree = self.client.nodes() if tree is None else tree
        return judge(self.made, first, self.client.deeds if deeds is None else deeds, record, tree)

    def refuses(self, *records):
        for record in records:
            self.assertIs(self.judged(record), False, record)


class RecordTest(Case):
    def test_the_record(self):
        first, second = (key(0, 0, 0),), (key(1, 0, 0),)
        self.assertEqual(self.client.deeds, (
            (("act", first, 0), True), (("act", (), 1), False), (("part", 0), True), (("act", (), 0), False),
            (("act", first, 0), True), (("act", (), 0), False),
        ))
        self.assertEqual(self.record, (
            ("commit", True, 1, 1, (0,), ((first, 2),), (), ()),
            ("commit", False, 2, 2, (0, 1), (((), 2), (second, 1)), (7, 8), ()),
            ("commit", True, 5, 5, (0, 1, 2, 4), ((first, 1),), (9,), ()),
            ("commit", False, 5, 6, (0, 1, 2, 3, 4), (((), 1),), (), (7, 8)),
            ("commit", False, 6, 6, (0, 1, 2, 3, 4, 5), (((), 1),), (), (0, 1)),
        ))

    def test_it_is_taken(self):
        self.assertIs(self.judged(self.record), True)

    def test_no_commits(self):
        tree = client_of(self.made).nodes()
        self.assertIs(self.judged((), tree), True)
        self.assertIs(judge(self.made, (), (), (), tree), True)
        self.assertIs(self.judged(()), False)

    def test_each_beginning_with_its_tree(self):
        client = client_of(self.made)
        for many in range(len(self.record) + 1):
            tree = self.tree_behind(many)
            self.assertIs(self.judged(self.record[:many], tree), True)
            for other in range(len(self.record) + 1):
                if self.tree_behind(other) != tree:
                    self.assertIs(self.judged(self.record[:many], self.tree_behind(other)), False)
        self.assertEqual(self.tree_behind(0), client.nodes())

    def tree_behind(self, many):
        """What a client shows that is at rest with the deeds of so many commits."""
        client = client_of(self.made)
        for action in ("b", "more", "part", "less", "less")[:many]:
            if action == "part":
                client.feed(server_of(self.made).resolve(0))
                do(client, "b", True)
            else:
                do(client, action, action == "b")
            client.work(9)
        return client.nodes()

    def test_the_example(self):
        client = client_of(example(), behind=(0,))
        do(client, "p", False)
        client.work(9)
        self.assertIs(judge(example(), (), client.deeds, client.record, client.nodes()), True)
        self.assertIs(judge(example(), (0,), client.deeds, client.record, client.nodes()), False)

    def test_parts_that_were_present(self):
        client = client_of(example(), (0,))
        do(client, "p", False)
        client.work(9)
        self.assertIs(judge(example(), (0,), client.deeds, client.record, client.nodes()), True)
        self.assertIs(judge(example(), (), client.deeds, client.record, client.nodes()), False)

    def test_codes_are_not_asked(self):
        client = client_of(example(), codes=())
        do(client, "p", True)
        other = client_of(example())
        do(other, "p", True)
        client.work(9)
        other.work(9)
        self.assertIs(judge(example(), (), client.deeds, client.record, client.nodes()), True)
        self.assertIs(judge(example(), (), client.deeds, other.record, other.nodes()), True)


class TreeTest(Case):
    def test_another_tree(self):
        tree = self.client.nodes()
        others = (
            (), tree[1:], tree + (("text", 99, "x"),), tree[::-1], tree[0], None, list(tree), "tree", 7,
        )
        self.assertEqual(tree[-1], ("input", 6, "f", 7))
        last = (
            ("input", 6, "f", 8), ("input", 60, "f", 7), ("input", 6, "g", 7), ("text", 6, "f", 7), ("input", 6, "f"),
            ["input", 6, "f", 7], ("input", 6, "f", True), ("input", 6, "f", 7.0), None,
        )
        for other in others + tuple(tree[:-1] + (one,) for one in last):
            self.assertIs(judge(self.made, (), self.client.deeds, self.record, other), False, other)

    def test_a_tree_of_truth_values(self):
        made = program_of(component((text("a"), ("input", "f", 0)), (1,)))
        self.assertIs(judge(made, (), (), (), (("text", 0, "a"), ("input", 1, "f", 1))), True)
        for other in (
            (("text", False, "a"), ("input", 1, "f", 1)), (("text", 0, "a"), ("input", True, "f", 1)),
            (("text", 0, "a"), ("input", 1, "f", True)),
        ):
            self.assertIs(judge(made, (), (), (), other), False)

    def test_a_field_that_still_shows_what_was_entered(self):
        self.client.enter(6, 30)
        self.assertIs(self.judged(self.record), False)
        self.assertIs(self.judged(self.record, self.client.nodes()[:-1] + (("input", 6, "f", 7),)), True)
        self.client.work(9)
        self.assertIs(self.judged(self.client.record), True)
        self.client.enter(6, 30)
        self.assertIs(self.judged(self.client.record), True)


class ChangedTest(Case):
    """Records with one thing changed."""

    def test_urgent(self):
        for number in range(5):
            self.refuses(changed(self.record, number, urgent=not self.record[number][1]))

    def test_begun(self):
        others = ((0, -1, 2), (1, 3), (4, 3, 6), (4, 6), (5, 7))
        for number, row in enumerate(others):
            for begun in row:
                self.refuses(changed(self.record, number, begun=begun))

    def test_begun_may_be_less_where_nothing_else_differs(self):
        client = client_of(self.made)
        do(client, "b", True)
        do(client, "b", False)
        client.work(9)
        self.assertEqual(client.record[0][2:4], (2, 2))
        for begun, ended in ((1, 1), (1, 2), (2, 2)):
            record = changed(client.record, 0, begun=begun, ended=ended)
            self.assertIs(judge(self.made, (), client.deeds, record, client.nodes()), True)
        self.assertIs(judge(self.made, (), client.deeds, changed(client.record, 0, begun=0), client.nodes()), False)

    def test_ended(self):
        for number, ended in ((0, 0), (0, 3), (1, 1), (1, -1), (1, 6), (2, 4), (4, 5), (4, 7), (4, 100)):
            self.refuses(changed(self.record, number, ended=ended))

    def test_ended_later_than_the_next_one_began(self):
        self.refuses(changed(self.record, 2, ended=6), changed(self.record, 0, ended=3))

    def test_a_late_one_that_was_not_dropped(self):
        # It may end with late deeds that came, but not with urgent ones that it left out.
        client = client_of(self.made)
        do(client, "more", False)
        do(client, "more", False)
        do(client, "b", True)
        late = ("commit", False, 1, 1, (0,), (((), 2), ((key(1, 0, 0),), 1)), (7, 8), ())
        first = client_of(self.made)
        do(first, "more", False)
        first.work(9)
        self.assertEqual(first.record, (late,))
        self.assertIs(judge(self.made, (), client.deeds, (late,), first.nodes()), True)
        self.assertIs(judge(self.made, (), client.deeds, changed((late,), 0, ended=2), first.nodes()), True)
        self.assertIs(judge(self.made, (), client.deeds, changed((late,), 0, ended=3), first.nodes()), False)

    def test_a_late_one_that_was_not_dropped_and_changes_nothing(self):
        made = program_of(component((box(text("x"), action=0),), (), ((),)))
        client = client_of(made)
        do(client, "b", False)
        client.work(0)
        do(client, "b", True)
        self.assertEqual(client.record, (("commit", False, 1, 1, (0,), (), (), ()),))
        self.assertIs(judge(made, (), client.deeds, client.record, client.nodes()), True)
        later = changed(client.record, 0, ended=2)
        self.assertIs(judge(made, (), client.deeds, later, client.nodes()), False)

    def test_a_late_one_that_takes_in_urgent_ones(self):
        client = client_of(example())
        do(client, "p", True)
        client.work(9)
        late = changed(client.record, 0, urgent=False)
        self.assertIs(judge(example(), (), client.deeds, late, client.nodes()), False)
        deeds = ((client.deeds[0][0], False),)
        self.assertIs(judge(example(), (), deeds, late, client.nodes()), True)
        self.assertIs(judge(example(), (), deeds, client.record, client.nodes()), False)

    def test_taken(self):
        for number in range(5):
            taken = self.record[number][4]
            others = [(), taken[1:], taken[:-1], taken + (9,), taken + taken, taken + taken[-1:], list(taken), (taken,)]
            others += [tuple(float(one) for one in taken), tuple(bool(one) for one in taken)]
            if number > 0:
                others.append(taken[::-1])
            self.refuses(*[changed(self.record, number, taken=other) for other in others])

    def test_calls(self):
        for number in range(5):
            calls = self.record[number][5]
            others = [(), calls[1:], calls + calls[:1], calls + (((at(1),), 1),), list(calls), tuple(map(list, calls))]
            others += [((path, 3 - many),) + calls[1:] for path, many in calls[:1]]
            others += [((path,),) + calls[1:] for path, _ in calls[:1]]
            others += [((list(path), many),) + calls[1:] for path, many in calls[:1]]
            others += [(path + (at(7),), many) for path, many in calls[:1]]
            others += [((path, many, 0),) + calls[1:] for path, many in calls[:1]]
            others += [((path, True),) + calls[1:] for path, many in calls[:1] if many == 1]
            others += [((path, float(many)),) + calls[1:] for path, many in calls[:1]]
            if len(calls) > 1:
                others.append(calls[::-1])
            self.refuses(*[changed(self.record, number, calls=other) for other in others])

    def test_made_and_gone(self):
        for number in range(5):
            for name in ("made", "gone"):
                numbers = self.record[number][PLACES[name]]
                others = [numbers + (50,), list(numbers), None, (0,) + numbers, (-1,) + numbers]
                if numbers:
                    others += [(), numbers[1:], numbers[:-1], numbers + numbers[:1]]
                    others += [tuple(one + 1 for one in numbers), tuple(float(one) for one in numbers)]
                if len(numbers) > 1:
                    others.append(numbers[::-1])
                self.refuses(*[changed(self.record, number, **{name: other}) for other in others])
        self.refuses(changed(self.record, 4, gone=(False, True)))

    def test_a_commit_left_out(self):
        for number in range(5):
            self.refuses(self.record[:number] + self.record[number + 1:])

    def test_a_commit_added(self):
        for number in range(6):
            for commit in self.record:
                self.refuses(self.record[:number] + (commit,) + self.record[number:])
        last = self.record[-1]
        self.refuses(self.record + (last[:5] + ((), (), ()),))
        self.refuses(self.record + (("commit", True, 6, 6) + last[4:5] + ((), (), ()),))

    def test_commits_in_another_order(self):
        for number in range(4):
            one, other = self.record[number], self.record[number + 1]
            self.refuses(self.record[:number] + (other, one) + self.record[number + 2:])

    def test_other_deeds(self):
        deeds = self.client.deeds
        for number in range(len(deeds)):
            deed, urgent = deeds[number]
            other = deeds[:number] + ((deed, not urgent),) + deeds[number + 1:]
            self.assertIs(self.judged(self.record, deeds=other), False, number)
        self.assertIs(self.judged(self.record, deeds=deeds[:-1]), False)
        self.assertIs(self.judged(self.record, deeds=deeds + ((("part", 0), True),)), True)


class KindsTest(Case):
    """Commits of another form or kind."""

    WRONG = (None, True, 0, -1, 1.5, "commit", (), (1,), [], {}, b"x")

    def test_commits_of_another_kind(self):
        for number in range(5):
            for wrong in self.WRONG + (list(self.record[number]),):
                self.refuses(self.record[:number] + (wrong,) + self.record[number + 1:])

    def test_commits_of_another_length(self):
        for number in range(5):
            commit = self.record[number]
            for wrong in (commit[:-1], commit[1:], commit + ((),), commit * 2, commit[:5]):
                self.refuses(self.record[:number] + (wrong,) + self.record[number + 1:])

    def test_each_item_of_another_kind(self):
        for number in range(5):
            for name, place in PLACES.items():
                for wrong in self.WRONG + ("Commit", 7, (1, (2, (3, [])))):
                    right = self.record[number][place]
                    if not (isinstance(wrong, bool) == isinstance(right, bool) and wrong == right):
                        self.refuses(changed(self.record, number, **{name: wrong}))

    def test_truth_values_and_numbers(self):
        for number, (_, urgent, begun, ended, _, _, _, _) in enumerate(self.record):
            self.refuses(
                changed(self.record, number, urgent=int(urgent)), changed(self.record, number, urgent=None),
                changed(self.record, number, begun=float(begun)), changed(self.record, number, ended=float(ended)),
                changed(self.record, number, begun=str(begun)), changed(self.record, number, ended=str(ended)),
            )
        self.refuses(
            changed(self.record, 0, begun=True), changed(self.record, 0, ended=True),
            changed(self.record, 0, begun=True, ended=True),
        )

    def test_records_of_another_kind(self):
        self.refuses(*self.WRONG, list(self.record), self.record[0], (self.record,), {0: self.record})

    def test_deep_ones(self):
        deep = ()
        for _ in range(100000):
            deep = (deep,)
        self.refuses(changed(self.record, 0, taken=deep), changed(self.record, 1, calls=deep), (deep,))


class ShownTest(Case):
    def test_behind_each_commit(self):
        found = [shown_behind(self.made, (), self.client.deeds, self.record, number) for number in range(6)]
        taken = [()] + [commit[4] for commit in self.record]
        for seen, numbers in zip(found, taken):
            world = run(self.made, (), tuple(self.client.deeds[number][0] for number in numbers))
            self.assertEqual(seen, sight(page_of(self.made, world)[1]))
        self.assertEqual(found[0], sight(page_of(self.made, first_world(self.made, ()))[1]))
        self.assertEqual(found[5], self.client.sight())
        self.assertEqual([seen[0] for seen in found], [
            ("box", "b", (("text", digit),)) for digit in "4556"
        ] + [("box", "b", (("text", "6"),)), ("box", "less", (("text", "less"),))])

    def test_parts_that_were_present(self):
        client = client_of(example(), (0,))
        do(client, "p", True)
        client.work(9)
        found = [shown_behind(example(), (0,), client.deeds, client.record, number) for number in (0, 1)]
        five = ("text", "5")
        self.assertEqual(found, [
            (("box", "p", (("text", "n "), ("text", digit))), five, five) for digit in "01"
        ])

    def test_of_the_store(self):
        putting = component((show(store(0)), box(text("x"), action=0)), (), ((("put", 0, num(9)),),))
        made = program_of(putting, store=(1,))
        client = client_of(made)
        do(client, "b", False)
        client.work(9)
        self.assertEqual(shown_behind(made, (), client.deeds, client.record, 0)[0], ("text", "1"))
        self.assertEqual(shown_behind(made, (), client.deeds, client.record, 1)[0], ("text", "9"))


class ChanceTest(unittest.TestCase):
    """Records of clients with something changed by chance; what is changed so is never right."""

    def test_changed_records(self):
        tried = 0
        for seed in range(800, 860):
            maker = LivelyMaker(seed)
            program = maker.program()
            runs = Chance(maker, program)
            for _ in range(40):
                runs.step()
            runs.finish()
            client = runs.client
            known = (program, runs.before, client.deeds)
            self.assertIs(judge(*known, client.record, client.nodes()), True)
            for number in range(len(client.record)):
                for record in self.others(client.record, number):
                    tried += 1
                    self.assertIs(judge(*known, record, client.nodes()), False, (seed, record))
        self.assertGreater(tried, 500)

    def others(self, record, number):
        _, urgent, begun, ended, taken, calls, made, gone = record[number]
        yield changed(record, number, urgent=not urgent)
        yield changed(record, number, begun=ended + 1)
        yield changed(record, number, ended=begun - 1)
        yield changed(record, number, taken=taken[:-1])
        yield changed(record, number, taken=taken + (99,))
        yield changed(record, number, calls=calls + (((), 1),))
        yield changed(record, number, made=made + (9999,))
        yield changed(record, number, gone=gone + (9999,))
        if calls:
            (path, many), *rest = calls
            yield changed(record, number, calls=tuple(rest))
            yield changed(record, number, calls=((path, 3 - many), *rest))


if __name__ == "__main__":
    unittest.main()
