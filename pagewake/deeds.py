"""Deeds: what they do in a world, and what events and fields mean where they are shown."""

from pagewake.names import parts_of
from pagewake.pages import components_of
from pagewake.values import value
from pagewake.worlds import first_world, page_of, settle


class Acting:
    """What the steps of an act see and change, before the world is settled."""

    def __init__(self, program, world):
        self.program = program
        self.store = world[1]
        self.cells = {path: values for path, values in world[2]}
        # Taken once, since the props are those of the page before the deed.
        self.components = {
            path: (component, props)
            for path, component, props, _ in components_of(page_of(program, world))
        }
        self.doers = []

    def act(self, path, action):
        """Does the steps of an action of the component at a path, if there is one."""
        if path not in self.components:
            return
        component, props = self.components[path]
        actions = self.program[1][component][3]
        if not 0 <= action < len(actions):
            return
        self.doers.append(component)
        for step in actions[action]:
            self.take_step(path, props, step)

    def take_step(self, path, props, step):
        """Does one step of an action of the component at a path."""
        scope = ("scope", self.cells[path], props, self.store, 0)
        match step:
            case ("set", at, expression):
                self.cells[path] = _with(self.cells[path], at, value(expression, scope, []))
            case ("put", at, expression):
                self.store = _with(self.store, at, value(expression, scope, []))
            case ("up", action):
                self.go_up(path, action)

    def go_up(self, path, action):
        """Does an action of the component around that at a path."""
        for beginning in reversed(parts_of(path)):
            if beginning in self.components:
                self.act(beginning, action)
                return


def do(program, world, deed):
    """The world behind a deed."""
    _, store, cells, present = world
    match deed:
        case ("act", path, action):
            acting = _acted(program, world, path, action)
            return settle(program, acting.store, tuple(acting.cells.items()), present)
        case ("enter", path, cell, entered):
            return settle(program, store, _cells_with(cells, path, cell, entered), present)
        case ("part", part):
            return settle(program, store, cells, present + (part,))


def run(program, present, deeds):
    """The world behind all deeds, done one after the other from the first world on."""
    return worlds(program, present, deeds)[-1]


def worlds(program, present, deeds):
    """The first world and the one behind each deed."""
    found = [first_world(program, present)]
    for deed in deeds:
        found.append(do(program, found[-1], deed))
    return tuple(found)


def meaning(nodes, path):
    """The (owner, action) that an event on the shown node at a path means, None if it means nothing."""
    for node in reversed(_line(nodes, path)):
        if node[0] == "box" and node[4] is not None:
            return (node[3], node[4])
    return None


def field(nodes, path):
    """The (owner, cell) of the shown field at a path, None if there is none."""
    for node in _line(nodes, path)[-1:]:
        if node[0] == "input":
            return (node[3], node[4])
    return None


def done_by(program, world, deed):
    """The rising numbers of the components whose actions a deed does in a world."""
    match deed:
        case ("act", path, action):
            return tuple(sorted(set(_acted(program, world, path, action).doers)))
        case _:
            return ()


def _acted(program, world, path, action):
    acting = Acting(program, world)
    acting.act(path, action)
    return acting


def _cells_with(cells, path, cell, entered):
    return tuple([
        (own, _with(values, cell, entered) if own == path else values)
        for own, values in cells
    ])


def _with(row, at, item):
    """A row with another item at a place, if this is there."""
    if not 0 <= at < len(row):
        return row
    return row[:at] + (item,) + row[at + 1:]


def _line(nodes, path):
    """The shown nodes from the outermost one to that at a path, () if there is none."""
    for node in nodes:
        if node[1] == path:
            return (node,)
        if node[0] == "box":
            inner = _line(node[5], path)
            if inner:
                return (node,) + inner
    return ()
