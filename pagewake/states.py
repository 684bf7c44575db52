"""What is shown from the whole page on, commit by commit, and what a drawing takes to show more."""

from pagewake.deeds import do, done_by
from pagewake.drawing import Numbers, needs
from pagewake.pages import components_of, flat, shown
from pagewake.worlds import first_world, page_of


class Past:
    """The plain run of a row of deeds; one that begins like the row before is not run from the first world again."""

    def __init__(self, program, first):
        self.program = program
        self.deeds = ()
        self.worlds = (first_world(program, first),)
        # For each deed the components that do actions in it.
        self.doers = ()

    def go(self, deeds):
        """Makes the plain run of deeds."""
        same = _many_alike(self.deeds, deeds)
        self.worlds = self.worlds[:same + 1]
        self.doers = self.doers[:same]
        for deed in deeds[same:]:
            world = self.worlds[-1]
            self.doers = self.doers + (done_by(self.program, world, deed),)
            self.worlds = self.worlds + (do(self.program, world, deed),)
        self.deeds = deeds


class State:
    """What is shown: a world, its nodes and their numbers, and who is awake."""

    def __init__(self, program, first):
        self.program = program
        self.first = first
        self.past = Past(program, first)
        self.taken = ()
        self.awake = ()
        self.numbers = Numbers()
        self.page = ()
        self.world = self.past.worlds[0]
        self.show(self.world)

    def show(self, world):
        """Shows the page of a world; gives the numbers of the nodes that it makes and of those that go."""
        before = self.numbers_shown()
        self.world = world
        self.page = shown(page_of(self.program, world)[1])
        after = self.numbers_shown()
        self.numbers.keep(tuple([path for path in after]))
        made = [number for path, number in after.items() if path not in before]
        gone = [number for path, number in before.items() if path not in after]
        return tuple(sorted(made)), tuple(sorted(gone))

    def numbers_shown(self):
        """The numbers of the paths that are shown, in the order of the page."""
        return {path: self.numbers.number(path) for path, _, _ in flat(self.page)}

    def calls_for(self, world):
        """The calls that it takes to show a world, each as (path, calls)."""
        awake = {path: True for path in self.awake}
        asleep = tuple([path for path, _ in world[2] if path not in awake])
        needed = needs(self.program, self.first, self.world, world, asleep)
        return tuple([(path, calls) for path, _, calls in needed])

    def commit(self, drawing, ended):
        """Shows what a drawing has drawn; gives the commit for the record."""
        awake = {path: True for path in self.awake}
        for path, _ in drawing.calls:
            awake[path] = True
        made, gone = self.show(drawing.world)
        # Those that have left the page are forgotten here.
        self.awake = tuple([path for path, _ in self.world[2] if path in awake])
        self.taken = drawing.taken
        return ("commit", drawing.urgent, drawing.begun, ended, self.taken, drawing.calls, made, gone)


class Drawing:
    """What a drawing takes in and wants, and how many of its calls are left."""

    def __init__(self, state, deeds):
        self.begun = len(deeds)
        self.urgent, self.taken = to_take(deeds, state.taken)
        past = state.past
        past.go(tuple([deeds[number][0] for number in self.taken]))
        self.world = past.worlds[-1]
        self.calls = state.calls_for(self.world)
        self.left = sum([calls for _, calls in self.calls])
        self.wanted = _wanted(state.program, self.world, self.calls, past.doers)

    def call(self, most):
        """Makes so many of the calls at most; gives how many."""
        made = min(most, self.left)
        self.left -= made
        return made


def to_take(deeds, taken):
    """Whether the next drawing is urgent, and the numbers of all deeds that are taken in behind it."""
    if urgent_left(deeds, taken):
        urgent = [number for number, (_, is_urgent) in enumerate(deeds) if is_urgent]
        return True, tuple(sorted(set(urgent + list(taken))))
    return False, tuple([number for number, _ in enumerate(deeds)])


def urgent_left(deeds, taken):
    """Whether one of the deeds is urgent and not taken in."""
    return any([is_urgent and number not in taken for number, (_, is_urgent) in enumerate(deeds)])


def numbered(nodes, numbers):
    """The tree of shown nodes, with the numbers of their paths in place of these."""
    found = []
    for node in nodes:
        # A box gets its number before what is in it.
        number = numbers.number(node[1])
        match node:
            case ("box", _, tag, _, _, inner):
                found.append(("box", number, tag, numbered(inner, numbers)))
            case ("input", _, tag, _, _, entered):
                found.append(("input", number, tag, entered))
            case _:
                found.append(("text", number, node[2]))
    return tuple(found)


def _wanted(program, world, calls, doers):
    """The rising numbers of the components whose codes it takes."""
    components = {path: component for path, component, _, _ in components_of(page_of(program, world))}
    wanted = [components[path] for path, _ in calls]
    for those in doers:
        wanted.extend(those)
    return tuple(sorted(set(wanted)))


def _many_alike(one, other):
    """How many first items two rows have in common."""
    many = 0
    while many < min(len(one), len(other)) and one[many] == other[many]:
        many += 1
    return many
