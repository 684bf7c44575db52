"""Clients for the tests: fed ones, a model that does what the document says by other ways, and chance runs."""

from pagewake.client import Client
from pagewake.deeds import done_by, field, meaning, run, worlds
from pagewake.drawing import needs
from pagewake.pages import components_of, flat, shown
from pagewake.reading import read
from pagewake.server import Server
from pagewake.worlds import page_of


def server_of(program, before=()):
    """A server that has sent its page, with the parts before in it."""
    server = Server(program)
    for number in before:
        server.resolve(number)
    server.render()
    return server


def client_of(program, before=(), behind=(), codes=None, start=True):
    """A client that has got the page, with the parts before in it, those behind, and codes, all if none are told."""
    server = server_of(program, before)
    for number in behind:
        server.resolve(number)
    client = Client(program)
    client.feed(server.sent)
    for number in range(len(program[1])) if codes is None else codes:
        client.code(number)
    if start:
        client.start()
    return client


def all_of(tree):
    """All nodes of a tree, boxes before what is in them."""
    found = []
    for node in tree:
        found.append(node)
        if node[0] == "box":
            found.extend(all_of(node[3]))
    return found


def find(client, kind, what):
    """The number of the first node that is shown of a kind, with these characters or this tag."""
    return next(node[1] for node in all_of(client.nodes()) if node[0] == kind and node[2] == what)


def values_of(client):
    """The values of all fields that are shown."""
    return [node[3] for node in all_of(client.nodes()) if node[0] == "input"]


def texts_of(client):
    return [node[2] for node in all_of(client.nodes()) if node[0] == "text"]


def without_values(seen):
    """A sight without the values of its fields."""
    return tuple(
        node[:2] if node[0] == "input" else node[:2] + (without_values(node[2]),) if node[0] == "box" else node
        for node in seen
    )


class Model:
    """A client that begins from nothing at each question."""

    def __init__(self, program):
        self.program = program
        self.text = ""
        self.deeds = []
        self.taken = []
        self.awake = []
        self.codes = []
        self.record = []
        self.started = False
        self.entered = []
        self.told = 0
        self.drawing = None
        # Path -> number, and how many were given, from the first commit on.
        self.numbers = None
        self.many = 0

    def stream(self):
        return read(self.text)

    def whole(self):
        return self.stream()[3]

    def first(self):
        """The parts that are present in what has come of the page."""
        return tuple(sorted(self.present(self.stream()[2])))

    def present(self, marked):
        found = []
        for node in marked:
            if node[0] == "present":
                found.append(node[1])
            if node[0] in ("present", "box", "child"):
                found.extend(self.present(node[-1]))
        return found

    def world(self):
        return self.behind(self.taken) if self.whole() else None

    def behind(self, taken):
        return run(self.program, self.first(), tuple(self.deeds[number][0] for number in taken))

    def shown(self):
        """The shown nodes of the client's world; what has not begun is among them before the page is whole."""
        return shown(page_of(self.program, self.behind(self.taken))[1])

    def begun(self, marked):
        """How many nodes have begun that are shown."""
        many = 0
        for node in marked:
            many += node[0] in ("text", "box", "input")
            if node[0] in ("present", "box", "child"):
                many += self.begun(node[-1])
        return many

    def known(self):
        """Path -> number of all nodes that are shown."""
        if self.numbers is not None:
            return self.numbers
        paths = [path for path, _, _ in flat(self.shown())]
        return {path: number for number, path in enumerate(paths[:self.begun(self.stream()[2])])}

    def nodes(self):
        return self.tree(self.shown(), self.known())

    def tree(self, nodes, known):
        found = []
        for node in nodes:
            if node[1] not in known:
                break
            number = known[node[1]]
            if node[0] == "box":
                found.append(("box", number, node[2], self.tree(node[5], known)))
            elif node[0] == "input":
                found.append(("input", number, node[2], self.value(node)))
            else:
                found.append(("text", number, node[2]))
        return tuple(found)

    def value(self, node):
        last = [(number, value) for path, number, value in self.entered if path == node[1]][-1:]
        for number, value in last:
            if number not in self.taken:
                return value
        return node[5]

    def tree_of_cells(self):
        """What would be shown if nothing had been entered."""
        entered, self.entered = self.entered, []
        tree = self.nodes()
        self.entered = entered
        return tree

    def sight(self):
        return self.bare(self.nodes())

    def bare(self, tree):
        return tuple(
            ("box", node[2], self.bare(node[3])) if node[0] == "box" else node[:1] + node[2:] for node in tree
        )

    def feed(self, text):
        self.text += text
        for part in self.stream()[4][self.told:]:
            if part[3]:
                self.told += 1
                self.deeds.append((("part", part[0]), True))

    def path_of(self, number):
        return next((path for path, own in self.known().items() if own == number), None)

    def event(self, number, urgent):
        path = self.path_of(number)
        meant = None if path is None else meaning(self.shown(), path)
        if meant is not None:
            self.deeds.append((("act", *meant), urgent))
        return meant is not None

    def enter(self, number, value):
        path = self.path_of(number)
        owned = None if path is None else field(self.shown(), path)
        if owned is not None:
            self.entered.append((path, len(self.deeds), value))
            self.deeds.append((("enter", *owned, value), True))
        return owned is not None

    def start(self):
        self.started = True

    def code(self, number):
        self.codes = sorted({*self.codes, number})

    def wants(self):
        if self.drawing is None:
            return ()
        return tuple(number for number in sorted(self.drawing["wanted"]) if number not in self.codes)

    def urgent_left(self):
        return [number for number, (_, urgent) in enumerate(self.deeds) if urgent and number not in self.taken]

    def work(self, calls):
        if not self.started or not self.whole():
            return False
        if self.drawing is not None and not self.drawing["urgent"] and self.urgent_left():
            self.drawing = None
        while True:
            if self.drawing is None:
                if len(self.taken) == len(self.deeds):
                    return True
                self.begin()
            if self.wants():
                return False
            if self.drawing["left"] > calls:
                self.drawing["left"] -= calls
                return False
            calls -= self.drawing["left"]
            self.commit()

    def begin(self):
        urgent = bool(self.urgent_left())
        taken = sorted({*self.taken, *self.urgent_left()}) if urgent else list(range(len(self.deeds)))
        after = self.behind(taken)
        asleep = tuple(path for path, _ in after[2] if path not in self.awake)
        needed = needs(self.program, self.first(), self.world(), after, asleep)
        deeds = tuple(self.deeds[number][0] for number in taken)
        components = {one[0]: one[1] for one in components_of(page_of(self.program, after))}
        wanted = {components[path] for path, _, _ in needed}
        for world, deed in zip(worlds(self.program, self.first(), deeds), deeds):
            wanted |= {*done_by(self.program, world, deed)}
        self.drawing = {
            "urgent": urgent, "begun": len(self.deeds), "taken": taken, "wanted": wanted,
            "calls": tuple((path, calls) for path, _, calls in needed),
            "left": sum(calls for _, _, calls in needed),
        }

    def commit(self):
        before = self.known()
        self.many = max(self.many, len(before))
        drawing = self.drawing
        self.drawing = None
        self.taken = drawing["taken"]
        called = [path for path, _ in drawing["calls"]]
        self.awake = [path for path, _ in self.world()[2] if path in self.awake or path in called]
        self.numbers = {}
        made = []
        for path, _, _ in flat(self.shown()):
            if path in before:
                self.numbers[path] = before[path]
            else:
                self.numbers[path] = self.many
                made.append(self.many)
                self.many += 1
        gone = tuple(sorted(number for path, number in before.items() if path not in self.numbers))
        self.record.append((
            "commit", drawing["urgent"], drawing["begun"], len(self.deeds), tuple(self.taken), drawing["calls"],
            tuple(made), gone,
        ))


class Chance:
    """A client and its model that do the same things, by a seed; the parts before are in the page."""

    def __init__(self, maker, program):
        self.chance = maker.chance
        self.program = program
        parts = list(range(len(program[3])))
        self.chance.shuffle(parts)
        many = self.chance.randrange(len(parts) + 1)
        self.before, self.behind = tuple(sorted(parts[:many])), parts[many:]
        self.server = server_of(program, self.before)
        self.client = Client(program)
        self.model = Model(program)
        self.fed = 0

    def step(self):
        """One thing happens; gives (what, the client's answer, the model's)."""
        if len(self.client.deeds) >= 20:
            return self.both(("work", self.chance.randrange(4)))
        kinds = ["feed", "feed", "feed", "event", "event", "event", "enter", "work", "work", "work", "code", "start"]
        kind = self.chance.choice(kinds)
        if kind == "feed":
            return self.feed()
        if kind == "start":
            return self.both(("start",)) if self.chance.randrange(3) == 0 else self.both(("work", 0))
        if kind == "event":
            return self.both(("event", self.number(("box", "text", "input")), self.chance.randrange(2) == 0))
        if kind == "enter":
            return self.both(("enter", self.number(("input",)), self.chance.choice((0, 1, 2, 6, 999))))
        if kind == "code":
            return self.both(("code", self.chance.randrange(len(self.program[1]))))
        return self.both(("work", self.chance.choice((0, 1, 1, 2, 3, 50))))

    def feed(self):
        if self.fed == len(self.server.sent) and self.behind:
            self.server.resolve(self.behind.pop())
        many = self.chance.choice((1, 5, 20, 100))
        piece = self.server.sent[self.fed:self.fed + many]
        self.fed += len(piece)
        return self.both(("feed", piece))

    def number(self, kinds):
        numbers = [node[1] for node in all_of(self.client.nodes()) if node[0] in kinds]
        if not numbers or self.chance.randrange(10) == 0:
            return self.chance.randrange(60)
        return self.chance.choice(numbers)

    def both(self, what):
        name, *told = what
        return what, getattr(self.client, name)(*told), getattr(self.model, name)(*told)

    def finish(self):
        """Everything comes, and the client comes to rest."""
        while self.fed < len(self.server.sent) or self.behind:
            self.feed()
        self.both(("start",))
        for number in range(len(self.program[1])):
            self.both(("code", number))
        return self.both(("work", 100000))


def component_at(program, path):
    """The component at a path, by the addresses of its names."""
    found, row = 0, program[1][0][2]
    for name in path:
        if name[0] == "part":
            found = program[3][name[1]]
            row = program[1][found][2]
            continue
        address = list(name[1])
        template = row[address.pop(0)]
        while address:
            inner = template[2 + address.pop(0)] if template[0] == "when" else template[2]
            template = inner[address.pop(0)]
        if template[0] == "child":
            found = template[1]
            row = program[1][found][2]
        else:
            row = template[4]
    return found
