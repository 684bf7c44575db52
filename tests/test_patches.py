"""[h1] patches."""

import itertools
import random
import unittest

from clients import Chance, all_of
from pagewake.patches import apply_patch, fewest, patch
from programs import LivelyMaker


def text(number, characters="x"):
    return ("text", number, characters)


def box(number, *nodes, tag="b"):
    return ("box", number, tag, nodes)


def field(number, worth=0):
    return ("input", number, "f", worth)


def texts(*numbers):
    return tuple(text(number) for number in numbers)


class KindsTest(unittest.TestCase):
    """Each kind of operation."""

    def check(self, before, after, *operations):
        self.assertEqual(patch(before, after), operations)
        self.assertEqual(apply_patch(before, operations), after)

    def test_nothing(self):
        self.check((), ())
        tree = (text(0), box(1, field(2, 5), box(3)))
        self.check(tree, tree)

    def test_texts(self):
        self.check((text(0, "a"), text(1, "b")), (text(0, "a"), text(1, "c")), ("text", 1, "c"))
        self.check((box(0, text(3, "a")),), (box(0, text(3, "999")),), ("text", 3, "999"))

    def test_values(self):
        self.check((field(0, 4), field(1, 5)), (field(0, 6), field(1, 5)), ("value", 0, 6))
        self.check((box(2, field(0, 4)),), (box(2, field(0, 0)),), ("value", 0, 0))

    def test_texts_and_values_in_the_order_of_after(self):
        before = (text(5, "a"), box(1, field(4, 1), text(3, "b")), field(2, 2))
        after = (text(5, "A"), box(1, field(4, 11), text(3, "B")), field(2, 22))
        self.check(before, after, ("text", 5, "A"), ("value", 4, 11), ("text", 3, "B"), ("value", 2, 22))

    def test_takes(self):
        self.check(texts(0, 1, 2), texts(1), ("take", 0), ("take", 2))
        self.check((box(0, text(1), text(2)),), (box(0, text(2)),), ("take", 1))
        self.check(texts(0), (), ("take", 0))

    def test_a_node_is_taken_with_all_in_it(self):
        before = (box(0, text(1), box(2, text(3))), box(4, text(5), box(6, text(7)), field(8)))
        self.check(before, (box(4, text(5)),), ("take", 0), ("take", 6), ("take", 8))
        self.check(before, (), ("take", 0), ("take", 4))

    def test_takes_in_the_order_of_before(self):
        before = (text(9), box(3, text(8), box(2, text(7))), text(1))
        self.check(before, (box(3, box(2)),), ("take", 9), ("take", 8), ("take", 7), ("take", 1))

    def test_makes(self):
        self.check((), (text(0, "a"),), ("make", text(0, "a")), ("put", 0, None, None))
        self.check((), (field(0, 7),), ("make", field(0, 7)), ("put", 0, None, None))
        self.check((), (box(0, tag="p"),), ("make", box(0, tag="p")), ("put", 0, None, None))

    def test_new_boxes_are_made_empty(self):
        inner = box(1, text(2), box(3, field(4, 9)))
        self.check(
            (text(0),), (text(0), inner), ("make", box(1)), ("make", text(2)), ("make", box(3)), ("make", field(4, 9)),
            ("put", 1, None, None), ("put", 3, 1, None), ("put", 2, 1, 3), ("put", 4, 3, None),
        )

    def test_new_nodes_before_old_ones(self):
        self.check(
            texts(5), texts(7, 5, 8), ("make", text(7)), ("make", text(8)), ("put", 8, None, None), ("put", 7, None, 5),
        )

    def test_new_boxes_with_new_and_old_neighbours(self):
        before = (text(0), box(1, text(2)), text(3))
        after = (box(4, text(5)), text(0), box(6), box(7), box(1, box(8, text(9)), text(2)), text(3))
        self.check(
            before, after, ("make", box(4)), ("make", text(5)), ("make", box(6)), ("make", box(7)), ("make", box(8)),
            ("make", text(9)), ("put", 7, None, 1), ("put", 6, None, 7), ("put", 4, None, 0), ("put", 5, 4, None),
            ("put", 8, 1, 2), ("put", 9, 8, None),
        )

    def test_all_together(self):
        before = (text(0, "a"), box(1, text(2, "b"), field(3, 1)), box(4, text(5)))
        after = (box(1, field(3, 2), text(6, "n"), text(2, "b")), text(0, "z"))
        self.check(
            before, after, ("take", 4), ("value", 3, 2), ("make", text(6, "n")), ("text", 0, "z"),
            ("put", 0, None, None), ("put", 2, 1, None), ("put", 6, 1, 2),
        )


class OrderTest(unittest.TestCase):
    """Orders turned, and which of several longest rows stays."""

    def check(self, before, after, stays, *puts):
        self.assertEqual(patch(texts(*before), texts(*after)), puts)
        self.assertEqual(apply_patch(texts(*before), puts), texts(*after))
        rows = ((None, stays),) if stays else ()
        self.assertEqual(fewest(texts(*before), texts(*after)), (len(before) - len(stays), rows))

    def test_two(self):
        self.check((0, 1), (1, 0), (1,), ("put", 0, None, None))

    def test_the_first_one_behind_all(self):
        self.check((0, 1, 2), (1, 2, 0), (1, 2), ("put", 0, None, None))

    def test_the_last_one_before_all(self):
        self.check((0, 1, 2), (2, 0, 1), (0, 1), ("put", 2, None, 0))

    def test_turned_around(self):
        self.check((0, 1, 2), (2, 1, 0), (2,), ("put", 0, None, None), ("put", 1, None, 0))

    def test_the_least_places_in_after(self):
        # The longest rows of after are (1, 2), (1, 3), (0, 2) and (0, 3): the first one stands first there.
        self.check((0, 1, 2, 3), (1, 0, 3, 2), (1, 3), ("put", 2, None, None), ("put", 0, None, 3))

    def test_least_from_the_first_number_on(self):
        # (2, 3) has the places 0 and 1, (0, 1) the places 2 and 3.
        self.check((0, 1, 2, 3), (2, 3, 0, 1), (2, 3), ("put", 1, None, None), ("put", 0, None, 1))
        # (0, 4) and (0, 3) begin at the same place, and 4 stands before 3 in after.
        self.check((0, 3, 4), (0, 4, 3), (0, 4), ("put", 3, None, None))
        # A longer row counts more than one with lesser places.
        self.check((0, 1, 2, 3), (2, 0, 1, 3), (0, 1, 3), ("put", 2, None, 0))
        self.check((1, 4, 5, 3), (4, 1, 3, 5), (4, 3), ("put", 5, None, None), ("put", 1, None, 3))

    def test_puts_from_the_last_one_to_the_first_one(self):
        self.check(
            (0, 1, 2, 3, 4), (4, 3, 0, 2, 1), (0, 2),
            ("put", 1, None, None), ("put", 3, None, 0), ("put", 4, None, 3),
        )

    def test_in_boxes(self):
        before = (box(0, *texts(1, 2, 3)), box(4, *texts(5, 6)))
        after = (box(4, *texts(6, 5)), box(0, *texts(3, 1, 2)))
        operations = (("put", 0, None, None), ("put", 5, 4, None), ("put", 3, 0, 1))
        self.assertEqual(patch(before, after), operations)
        self.assertEqual(apply_patch(before, operations), after)
        self.assertEqual(fewest(before, after), (3, ((None, (4,)), (4, (6,)), (0, (1, 2)))))

    def test_the_row_that_stays_between_takes_and_makes(self):
        before = texts(0, 1, 2, 3)
        after = texts(3, 9, 1, 8, 2)
        self.assertEqual(fewest(before, after), (1, ((None, (1, 2)),)))
        self.assertEqual(patch(before, after), (
            ("take", 0), ("make", text(9)), ("make", text(8)),
            ("put", 8, None, 2), ("put", 9, None, 1), ("put", 3, None, 9),
        ))


class FewestTest(unittest.TestCase):
    def test_nothing(self):
        self.assertEqual(fewest((), ()), (0, ()))
        self.assertEqual(fewest(texts(0), ()), (0, ()))

    def test_new_ones_do_not_count(self):
        self.assertEqual(fewest((), texts(0, 1)), (0, ()))
        self.assertEqual(fewest(texts(5), texts(0, 5, 1)), (0, ((None, (5,)),)))

    def test_all_that_stay(self):
        tree = (text(0), box(1, field(2), box(3), box(4, text(5))))
        self.assertEqual(fewest(tree, tree), (0, ((None, (0, 1)), (1, (2, 3, 4)), (4, (5,)))))

    def test_boxes_without_a_row(self):
        before = (box(0, text(1)), box(2))
        self.assertEqual(fewest(before, (box(0, text(3)), box(2, text(4)))), (0, ((None, (0, 2)),)))


def brute_row(before, after):
    """The longest row by trying all rows of after, the longest and first ones first."""
    both = [number for number in after if number in before]
    for many in range(len(both), 0, -1):
        for row in itertools.combinations(both, many):
            places = [before.index(number) for number in row]
            if places == sorted(places):
                return row
    return ()


class AllOrdersTest(unittest.TestCase):
    def test_every_order_of_six(self):
        before = tuple(range(6))
        for after in itertools.permutations(before):
            self.check_row(before, after)

    def test_every_row_of_four_old_and_new_ones(self):
        for many in range(5):
            for after in itertools.permutations((0, 1, 2, 3, 7, 8), many):
                self.check_row((2, 0, 3, 1), after)

    def check_row(self, before, after):
        stays = brute_row(before, after)
        old = [number for number in after if number in before]
        rows = ((None, stays),) if stays else ()
        self.assertEqual(fewest(texts(*before), texts(*after)), (len(old) - len(stays), rows))
        operations = patch(texts(*before), texts(*after))
        expected = [("take", number) for number in before if number not in after]
        expected += [("make", text(number)) for number in after if number not in before]
        for number, behind in reversed(list(zip(after, after[1:] + (None,)))):
            if number not in stays:
                expected.append(("put", number, None, behind))
        self.assertEqual(operations, tuple(expected))
        self.assertEqual(apply_patch(texts(*before), operations), texts(*after))


class ChanceTest(unittest.TestCase):
    def tree(self, chance, homes, parent=None):
        """A tree of some of the nodes; homes: number -> box, so that a node is always in the same one."""
        row = [number for number, home in homes.items() if home == parent and chance.randrange(4)]
        chance.shuffle(row)
        found = []
        for number in row:
            if number % 3 == 0:
                found.append(box(number, *self.tree(chance, homes, number)))
            elif number % 3 == 1:
                found.append(text(number, chance.choice(("x", "y"))))
            else:
                found.append(field(number, chance.randrange(2)))
        return tuple(found)

    def test_the_second_tree_comes_of_the_first(self):
        chance = random.Random(7)
        for _ in range(400):
            homes = {}
            for number in range(chance.randrange(40)):
                homes[number] = chance.choice([None, None] + [home for home in homes if home % 3 == 0])
            before, after = self.tree(chance, homes), self.tree(chance, homes)
            operations = patch(before, after)
            self.assertEqual(apply_patch(before, operations), after)
            self.assertEqual(fewest(before, after)[0], self.old_puts(before, operations))
            self.check_rows(before, after)

    def old_puts(self, before, operations):
        old = [node[1] for node in all_of(before)]
        return len([one for one in operations if one[0] == "put" and one[1] in old])

    def check_rows(self, before, after):
        boxes = {node[1]: node[3] for node in all_of(before) if node[0] == "box"}
        later = [(None, before, after)]
        later += [(node[1], boxes.get(node[1], ()), node[3]) for node in all_of(after) if node[0] == "box"]
        rows = []
        for parent, one, other in later:
            row = brute_row([node[1] for node in one], [node[1] for node in other])
            if row:
                rows.append((parent, row))
        self.assertEqual(fewest(before, after)[1], tuple(rows))

    def test_what_clients_show(self):
        for seed in range(700, 720):
            maker = LivelyMaker(seed)
            runs = Chance(maker, maker.program())
            earlier = ()
            for _ in range(50):
                runs.step()
                later = runs.client.nodes()
                for before, after in ((earlier, later), (later, earlier)):
                    self.assertEqual(apply_patch(before, patch(before, after)), after)
                earlier = later


if __name__ == "__main__":
    unittest.main()
