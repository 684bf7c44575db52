"""Programs for the tests: short words for their shapes, the document's example, and many made by seeds."""

import random

from pagewake.checking import check, templates
from pagewake.pages import flat
from pagewake.worlds import first_world, page_of


def num(number):
    return ("num", number)


def cell(at):
    return ("cell", at)


def prop(at):
    return ("prop", at)


def store(at):
    return ("store", at)


def index():
    return ("index",)


def text(characters):
    return ("text", characters)


def show(expression):
    return ("show", expression)


def box(*contents, tag="b", key=None, action=None):
    return ("box", tag, key, action, contents)


def child(component, *props, key=None):
    return ("child", component, key, props)


def each(count, *contents):
    return ("each", count, contents)


def component(contents=(), cells=(), actions=()):
    return ("component", cells, contents, actions)


def program_of(*components, store=(), parts=()):
    return ("program", components, store, parts)


def at(*address, of=()):
    return ("at", address, of)


def key(worth, *address):
    return ("key", address, worth)


def part(number):
    return ("part", number)


def example():
    """The program of the document's example."""
    count = box(text("n "), show(cell(0)), tag="p", action=0)
    first = component(
        (count, child(1), part(0)), (0,), ((("set", 0, ("plus", cell(0), num(1))),),),
    )
    return program_of(first, component((show(store(0)),)), store=(5,), parts=(1,))


class Maker:
    """Makes programs without faults by a seed."""

    def __init__(self, seed):
        self.chance = random.Random(seed)

    def expression(self, depth=3):
        kind = self.chance.choice(("num", "cell", "prop", "store", "index", "sign", "sign", "if"))
        if depth == 0 or kind not in ("sign", "if"):
            if kind in ("sign", "if", "num"):
                return num(self.chance.choice((0, 1, 2, 3, 5, 7, 998, 999)))
            return ("index",) if kind == "index" else (kind, self.chance.randrange(4))
        if kind == "if":
            return ("if", self.expression(depth - 1), self.expression(depth - 1), self.expression(depth - 1))
        sign = self.chance.choice(("plus", "minus", "same", "less"))
        return (sign, self.expression(depth - 1), self.expression(depth - 1))

    def key(self):
        return self.chance.choice((None, None, ("index",), cell(0), store(0), num(3), self.expression(1)))

    def contents(self, own, many, left, depth=3):
        """Contents of component own of many; left: a list of how many templates may still be made."""
        return tuple(self.template(own, many, left, depth) for _ in range(self.chance.randrange(1, 4)) if left[0] > 0)

    def template(self, own, many, left, depth):
        left[0] -= 1
        kinds = ["text", "show", "show", "input"]
        if own + 1 < many:
            kinds += ["child"] * 3
        if depth > 0:
            kinds += ["box", "box", "box", "when", "each"]
        kind = self.chance.choice(kinds)
        tag = self.chance.choice(("a", "p", "item"))
        if kind == "text":
            return text(self.chance.choice(("one", "2", "a b", " ")))
        if kind == "show":
            return show(self.expression())
        if kind == "input":
            return ("input", tag, self.chance.randrange(4))
        if kind == "child":
            handed = [self.expression(2) for _ in range(self.chance.randrange(3))]
            return child(self.chance.randrange(own + 1, many), *handed, key=self.key())
        if kind == "box":
            action = self.chance.choice((None, 0, 1, 2))
            return box(*self.contents(own, many, left, depth - 1), tag=tag, key=self.key(), action=action)
        if kind == "each":
            return each(self.expression(1), *self.contents(own, many, left, depth - 1))
        inner = self.contents(own, many, left, depth - 1)
        return ("when", self.expression(2), inner, self.contents(own, many, left, depth - 1))

    def with_parts(self, contents, parts):
        """Contents with the parts put at places where they may stand."""
        rows = [list(contents)]
        for number in range(parts):
            row = self.chance.choice(rows)
            row.insert(self.chance.randrange(len(row) + 1), part(number))
            if self.chance.randrange(3) == 0:
                here = row.index(part(number))
                row[here] = box(part(number), tag="part", key=self.key())
        return tuple(rows[0])

    def actions(self):
        steps = ("set", "set", "put", "up")
        return tuple(
            tuple(self.step(self.chance.choice(steps)) for _ in range(self.chance.randrange(4)))
            for _ in range(self.chance.randrange(4))
        )

    def step(self, kind):
        if kind == "up":
            return ("up", self.chance.randrange(3))
        return (kind, self.chance.randrange(3), self.expression(2))

    def values(self, most):
        return tuple(self.chance.choice((0, 1, 2, 3, 999)) for _ in range(self.chance.randrange(most + 1)))

    def program(self):
        """A program without a fault whose first page is not too large."""
        while True:
            many = self.chance.randrange(1, 6)
            parts = self.chance.randrange(4) if many > 1 else 0
            rows = [self.contents(own, many, [10]) for own in range(many)]
            rows[0] = self.with_parts(rows[0], parts)
            components = [component(row, self.values(3), self.actions()) for row in rows]
            placed = tuple(self.chance.randrange(1, many) for _ in range(parts))
            made = program_of(*components, store=self.values(3), parts=placed)
            if self.is_small(made):
                check(made)
                return made

    def is_small(self, made):
        if any(len(templates(one[2])) > 24 for one in made[1]):
            return False
        page = page_of(made, first_world(made, tuple(range(len(made[3])))))
        return 0 < len(flat(page[1])) <= 120

    def deed(self, made, paths, fields):
        """A deed for a program whose page has components at the paths and fields (owner, cell)."""
        kind = self.chance.choice(("act", "act", "act", "enter", "part"))
        if kind == "part" and made[3]:
            return ("part", self.chance.randrange(len(made[3])))
        worth = self.chance.choice((0, 1, 2, 5, 999))
        if kind == "enter" and fields:
            return ("enter", *self.chance.choice(fields), worth)
        return ("act", self.chance.choice(paths), self.chance.randrange(3))


class LivelyMaker(Maker):
    """Makes programs in which much happens: full cells and stores, and actions that are there and change something."""

    def expression(self, depth=3):
        if depth > 0 and self.chance.randrange(3) == 0:
            return self.chance.choice((cell(0), cell(1), store(0), store(1), prop(0)))
        return Maker.expression(self, min(depth, 2))

    def values(self, most):
        return tuple(self.chance.choice((0, 1, 2, 3, 999)) for _ in range(most))

    def actions(self):
        steps = ("set", "set", "put", "up")
        return tuple(
            tuple(self.step(self.chance.choice(steps)) for _ in range(self.chance.randrange(1, 4))) for _ in range(3)
        )

    def step(self, kind):
        if kind == "up" or self.chance.randrange(2) == 0:
            return Maker.step(self, kind)
        at = self.chance.randrange(2)
        grown = ("plus", cell(at) if kind == "set" else store(at), num(self.chance.choice((1, 2, 999))))
        return (kind, at, grown)
