"""[s2] marked nodes, [s3] what has been read of a beginning of a stream."""

import unittest

from pagewake.reading import Reader, read
from pagewake.server import Server
from programs import Maker, at, box, cell, child, component, each, example, index, key, num, part, program_of, show
from programs import store, text


def beginnings(stream):
    return [stream[:many] for many in range(len(stream) + 1)]


def first_with(stream, holds):
    """The shortest beginning of a stream for which something holds."""
    return next(told for told in beginnings(stream) if holds(read(told)))


def nodes_of(told):
    return read("- " + told)[2]


class NodesTest(unittest.TestCase):
    def test_a_text(self):
        self.assertEqual(nodes_of("'n '"), (("text", "n "),))
        self.assertEqual(nodes_of("' ''0'"), (("text", " "), ("text", "0")))

    def test_a_text_begins_with_its_second_quote(self):
        for told in ("'", "'n", "'n "):
            self.assertEqual(nodes_of(told), (), told)
        self.assertEqual(nodes_of("'n ''"), (("text", "n "),))

    def test_a_box(self):
        self.assertEqual(nodes_of("(a0/- p 1 )"), (("box", at(0), "p", 1, ()),))
        self.assertEqual(nodes_of("(k0.2=30 tag - )"), (("box", key(30, 0, 2), "tag", None, ()),))

    def test_a_box_begins_with_its_third_space(self):
        for told in ("(", "(a0/-", "(a0/- ", "(a0/- p", "(a0/- p ", "(a0/- p 1", "(a0/- p -"):
            self.assertEqual(nodes_of(told), (), told)
        self.assertEqual(nodes_of("(a0/- p 12 "), (("box", at(0), "p", 12, ()),))
        self.assertEqual(nodes_of("(a0/- p - 'x"), (("box", at(0), "p", None, ()),))

    def test_a_child(self):
        self.assertEqual(nodes_of("[a1/- 1 - 0 '5']"), (("child", at(1), 1, (), (0,), (("text", "5"),)),))
        self.assertEqual(nodes_of("[k3=0 7 1.22.999 - ]"), (("child", key(0, 3), 7, (1, 22, 999), (), ()),))

    def test_a_child_begins_with_its_fourth_space(self):
        for told in ("[", "[a1/- ", "[a1/- 1", "[a1/- 1 ", "[a1/- 1 -", "[a1/- 1 - ", "[a1/- 1 - 0", "[a1/- 1 5.6 0.1"):
            self.assertEqual(nodes_of(told), (), told)
        self.assertEqual(nodes_of("[a1/- 1 5.6 0.1 "), (("child", at(1), 1, (5, 6), (0, 1), ()),))

    def test_a_place(self):
        self.assertEqual(nodes_of("{0}"), (("place", 0),))
        self.assertEqual(nodes_of("{12}'x'"), (("place", 12), ("text", "x")))

    def test_a_place_begins_with_its_end(self):
        for told in ("{", "{1", "{12"):
            self.assertEqual(nodes_of(told), (), told)

    def test_a_part_that_is_present(self):
        self.assertEqual(nodes_of("{2:0.3 'x'}"), (("present", 2, (0, 3), (("text", "x"),)),))
        self.assertEqual(nodes_of("{0:- }"), (("present", 0, (), ()),))

    def test_one_that_is_present_begins_with_its_space(self):
        for told in ("{", "{2", "{2:", "{2:0", "{2:0.", "{2:0.3"):
            self.assertEqual(nodes_of(told), (), told)
        self.assertEqual(nodes_of("{2:0.3 "), (("present", 2, (0, 3), ()),))

    def test_a_field(self):
        self.assertEqual(nodes_of("<a0/- f 1 52>"), (("input", at(0), "f", 1, 52),))

    def test_a_field_begins_with_its_end(self):
        for told in ("<", "<a0/- ", "<a0/- f ", "<a0/- f 1 ", "<a0/- f 1 52"):
            self.assertEqual(nodes_of(told), (), told)

    def test_names(self):
        for word, name in (
            ("a0/-", at(0)), ("a3.0.12/-", at(3, 0, 12)), ("a0/4", at(0, of=(4,))),
            ("a10.1/0.11", at(10, 1, of=(0, 11))), ("k0=0", key(0, 0)), ("k5.1.2=999", key(999, 5, 1, 2)),
        ):
            self.assertEqual(nodes_of(f"({word} p - )"), (("box", name, "p", None, ()),))
            self.assertEqual(nodes_of(f"[{word} 1 - - ]"), (("child", name, 1, (), (), ()),))

    def test_nodes_within_nodes_that_have_begun(self):
        told = "(a0/- p - 'x'[a1/- 1 - - {0:- (a2/- q 0 'y'"
        within = (("text", "y"),)
        within = (("box", at(2), "q", 0, within),)
        within = (("present", 0, (), within),)
        within = (("text", "x"), ("child", at(1), 1, (), (), within))
        self.assertEqual(nodes_of(told), (("box", at(0), "p", None, within),))

    def test_nodes_behind_nodes_that_have_ended(self):
        first = ("box", at(0), "p", None, ())
        second = ("child", at(1), 1, (), (), ())
        third = ("present", 0, (), ())
        told = "(a0/- p - )[a1/- 1 - - ]{0:- }'x'"
        self.assertEqual(nodes_of(told), (first, second, third, ("text", "x")))
        self.assertEqual(nodes_of(told.replace(")", "").replace("]", "")), (
            first[:4] + ((second[:5] + ((third, ("text", "x")),),),),
        ))


class StreamTest(unittest.TestCase):
    def test_nothing(self):
        self.assertEqual(read(""), ("stream", None, (), False, ()))

    def test_reads_are_none_before_the_first_space(self):
        for told in ("-", "0", "0.", "0.1", "0.12"):
            self.assertEqual(read(told), ("stream", None, (), False, ()), told)
        self.assertEqual(read("- "), ("stream", (), (), False, ()))
        self.assertEqual(read("0.12 "), ("stream", (0, 12), (), False, ()))

    def test_whole_with_the_end(self):
        self.assertEqual(read("3 "), ("stream", (3,), (), False, ()))
        self.assertEqual(read("3 !"), ("stream", (3,), (), True, ()))
        self.assertEqual(read("- 'x'"), ("stream", (), (("text", "x"),), False, ()))
        self.assertEqual(read("- 'x'!"), ("stream", (), (("text", "x"),), True, ()))

    def test_parts_behind_the_page(self):
        nodes = (("place", 0), ("place", 1))
        for told in ("{", "{1", "{1:", "{1:0", "{1:0.2"):
            self.assertEqual(read("- {0}{1}!" + told), ("stream", (), nodes, True, ()), told)
        self.assertEqual(read("- {0}{1}!{1:0.2 "), ("stream", (), nodes, True, ((1, (0, 2), (), False),)))
        self.assertEqual(read("- {0}{1}!{1:0.2 }"), ("stream", (), nodes, True, ((1, (0, 2), (), True),)))
        first = (1, (0, 2), (("text", "x"),), True)
        self.assertEqual(read("- {0}{1}!{1:0.2 'x'}{0:-"), ("stream", (), nodes, True, (first,)))
        self.assertEqual(read("- {0}{1}!{1:0.2 'x'}{0:- "), ("stream", (), nodes, True, (first, (0, (), (), False))))
        self.assertEqual(read("- {0}{1}!{1:0.2 'x'}{0:- }"), ("stream", (), nodes, True, (first, (0, (), (), True))))

    def test_a_part_is_whole_with_its_own_end_alone(self):
        stream = "- {0}!{0:- (a0/- p - [a0/- 2 - - ])'x'}"
        for told in beginnings(stream)[stream.index("!") + 6:-1]:
            self.assertEqual([part[3] for part in read(told)[4]], [False], told)
        self.assertEqual([part[3] for part in read(stream)[4]], [True])

    def test_each_part_is_whole_for_itself(self):
        stream = "- {0}{1}!{0:- 'x'}{1:- 'y'}"
        self.assertEqual(first_with(stream, lambda told: [one[3] for one in told[4]] == [True]), stream[:-9])
        self.assertEqual(first_with(stream, lambda told: [one[3] for one in told[4]] == [True, False]), stream[:-4])
        self.assertEqual(first_with(stream, lambda told: [one[3] for one in told[4]] == [True, True]), stream)

    def test_the_example(self):
        server = Server(example())
        server.render()
        server.resolve(0)
        counted = (("text", "n "), ("text", "0"))
        nodes = (
            ("box", at(0), "p", 0, counted), ("child", at(1), 1, (), (0,), (("text", "5"),)), ("place", 0),
        )
        self.assertEqual(read(server.sent), ("stream", (), nodes, True, ((0, (0,), (("text", "5"),), True),)))
        self.assertEqual(read(server.sent[:21])[2], nodes[:1])


class Pieces:
    """A stream as a row of (signs, what they do); what they do counts when all of the signs have come."""

    def __init__(self, program, before, behind):
        server = Server(program)
        self.pieces = []
        for number in before:
            server.resolve(number)
        self.cut(server.render())
        for number in behind:
            self.cut(server.resolve(number))
        self.text = server.sent

    def cut(self, told):
        """Cuts a text from its end to its beginning, otherwise than the reader does."""
        found = []
        while told:
            if told[-1] in ")]!}" and not self.is_place(told):
                found.append((told[-1], "end"))
                told = told[:-1]
                continue
            start = self.start(told)
            found.append((told[start:], "begin"))
            told = told[:start]
        self.pieces.extend(reversed(found))

    def is_place(self, told):
        return told[-1] == "}" and told[told.rindex("{") + 1:-1].isdigit()

    def start(self, told):
        if told[-1] == "'":
            return told[:-1].rindex("'")
        if told[-1] == ">":
            return told.rindex("<")
        if told[-1] == "}":
            return told.rindex("{")
        return max([told.rfind(sign) for sign in "([{"] + [0])

    def rest(self, many):
        """The pieces that lie whole within so many first signs."""
        found = []
        for signs, does in self.pieces:
            many -= len(signs)
            if many < 0:
                return found
            found.append((signs, does))
        return found


def told_by(pieces):
    """What pieces tell, as read gives it; an open row is a list with its first words before it."""
    rows = []
    page = None
    behind = []
    for signs, does in pieces:
        if does == "end":
            rows.pop()[-1] = True
            continue
        words = signs[1:-1].replace(":", " ").split(" ")
        if page is None:
            page = [("stream", numbers(signs[:-1])), [], False]
            rows.append(page)
        elif signs[0] == "'":
            rows[-1][1].append(("text", signs[1:-1]))
        elif signs[0] == "<":
            rows[-1][1].append(("input", name(words[0]), words[1], int(words[2]), int(words[3])))
        elif signs[-1] == "}":
            rows[-1][1].append(("place", int(words[0])))
        else:
            rows.append(opened(signs[0], words, rows, behind))
    if page is None:
        return ("stream", None, (), False, ())
    parts = tuple(head + (closed(row), whole) for head, row, whole in behind)
    return page[0] + (closed(page[1]), page[2], parts)


def opened(sign, words, rows, behind):
    if sign == "(":
        head = ("box", name(words[0]), words[1], None if words[2] == "-" else int(words[2]))
    elif sign == "[":
        head = ("child", name(words[0]), int(words[1]), numbers(words[2]), numbers(words[3]))
    else:
        head = (int(words[0]), numbers(words[1]))
        head = ("present",) + head if rows else head
    row = [head, [], False]
    (rows[-1][1] if rows else behind).append(row)
    return row


def closed(row):
    return tuple(one if isinstance(one, tuple) else one[0] + (closed(one[1]),) for one in row)


def name(word):
    if word[0] == "a":
        address, repeats = word[1:].split("/")
        return ("at", numbers(address), numbers(repeats))
    address, worth = word[1:].split("=")
    return ("key", numbers(address), int(worth))


def numbers(word):
    return () if word == "-" else tuple(int(one) for one in word.split("."))


class BeginningsTest(unittest.TestCase):
    def check(self, program, before, behind, what):
        pieces = Pieces(program, before, behind)
        self.assertEqual("".join(signs for signs, _ in pieces.pieces), pieces.text)
        for many, told in enumerate(beginnings(pieces.text)):
            self.assertEqual(read(told), told_by(pieces.rest(many)), (what, told))

    def test_every_beginning_of_the_example(self):
        self.check(example(), (), (0,), "behind")
        self.check(example(), (0,), (), "present")

    def test_every_beginning_of_a_stream_with_all_kinds(self):
        inner = component((text("in"), box(show(store(1)), key=cell(0)), ("input", "f", 0), child(2, num(7))), (41,))
        first = component((
            show(store(0)), box(part(0), text("a b"), box(part(2)), tag="p", action=1, key=num(12)), part(1),
            each(num(3), child(1, index(), num(999), key=index()), box()), ("input", "name", 3),
        ))
        program = program_of(first, inner, component((text("z"),)), store=(7, 8), parts=(1, 2, 1))
        for before, behind in (((), ()), ((0,), (2, 1)), ((1, 2), (0,)), ((), (2, 0, 1)), ((0, 1, 2), ())):
            self.check(program, before, behind, (before, behind))

    def test_every_beginning_of_many_streams(self):
        for seed in range(25):
            program = Maker(seed).program()
            parts = tuple(range(len(program[3])))
            for many in range(len(parts) + 1):
                self.check(program, parts[:many], parts[:many - 1:-1] if many else parts[::-1], seed)


class ReaderTest(unittest.TestCase):
    def test_it_may_be_cut_anywhere(self):
        for seed in range(25):
            program = Maker(seed).program()
            server = Server(program)
            server.render()
            for number in range(len(program[3])):
                server.resolve(number)
            for size in (1, 2, 3, 7, 50):
                reader = Reader()
                for start in range(0, len(server.sent), size):
                    reader.feed(server.sent[start:start + size])
                    reader.feed("")
                    self.assertEqual(reader.stream(), read(server.sent[:start + size]))

    def test_the_parts_present_that_have_begun(self):
        reader = Reader()
        found = []
        for sign in "- (a0/- p - {1:- 'x'}){0}{2:0 }!{0:- 'y'}":
            reader.feed(sign)
            found.append(reader.present)
        self.assertEqual(found.index((1,)), len("- (a0/- p - {1:- ") - 1)
        self.assertEqual(found.index((1, 2)), len("- (a0/- p - {1:- 'x'}){0}{2:0 ") - 1)
        self.assertEqual(found[-1], (1, 2))


if __name__ == "__main__":
    unittest.main()
