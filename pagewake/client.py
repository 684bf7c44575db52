"""The client: it shows a page while it comes, and draws what deeds change."""

from pagewake.deeds import field, meaning
from pagewake.drawing import Numbers
from pagewake.pages import flat, make_page, shown, sight
from pagewake.reading import Reader
from pagewake.states import Drawing, State, numbered, urgent_left


class Client:
    """Where a page is shown."""

    def __init__(self, program):
        self.program = program
        self.deeds = ()
        self.taken = ()
        self.awake = ()
        self.started = False
        self.whole = False
        self.world = None
        self.codes = ()
        self.record = ()
        self.reader = Reader()
        # How many of the parts behind the page have become deeds.
        self.told = 0
        # What is shown, from the whole page on.
        self.state = None
        self.drawing = None
        # Path of a field -> (number of the deed, value) of what was entered last.
        self.entered = {}

    def feed(self, text):
        """More of the stream."""
        self.reader.feed(text)
        if not self.whole and self.reader.page is not None and self.reader.page.whole:
            self.whole = True
            self.state = State(self.program, tuple(sorted(self.reader.present)))
            self.world = self.state.world
        come = self.reader.parts[self.told:]
        for part in come:
            if part.whole:
                self.told += 1
                self.add(("part", part.head[0]), True)

    def start(self):
        """From now on deeds are taken in, if the page is whole."""
        self.started = True

    def event(self, number, urgent):
        """Something happens on a shown node; True if this adds a deed."""
        nodes = self.seen()
        meant = meaning(nodes, self.path_of(nodes, number))
        if meant is None:
            return False
        self.add(("act",) + meant, urgent)
        return True

    def enter(self, number, value):
        """A value is entered into a shown field; True if this adds a deed."""
        nodes = self.seen()
        path = self.path_of(nodes, number)
        entered = field(nodes, path)
        if entered is None:
            return False
        self.entered[path] = (len(self.deeds), value)
        self.add(("enter",) + entered + (value,), True)
        return True

    def add(self, deed, urgent):
        """A deed has come."""
        self.deeds = self.deeds + ((deed, urgent),)

    def work(self, calls):
        """Makes so many calls at most; True if nothing is left to do."""
        if not self.started or not self.whole:
            return False
        self.drop_late()
        left = calls
        while self.begin_drawing() and not self.wants():
            left -= self.drawing.call(left)
            if self.drawing.left > 0:
                break
            self.commit_drawing()
        return len(self.taken) == len(self.deeds)

    def drop_late(self):
        """Drops a late drawing if an urgent deed has come while it was under way."""
        if self.drawing is not None and not self.drawing.urgent and urgent_left(self.deeds, self.taken):
            self.drawing = None

    def begin_drawing(self):
        """Begins a drawing if none is under way and there are deeds for one; True if one is under way then."""
        if self.drawing is None and len(self.taken) < len(self.deeds):
            self.drawing = Drawing(self.state, self.deeds)
        return self.drawing is not None

    def commit_drawing(self):
        """Shows what the drawing has drawn."""
        commit = self.state.commit(self.drawing, len(self.deeds))
        self.record = self.record + (commit,)
        self.drawing = None
        self.world = self.state.world
        self.taken = self.state.taken
        self.awake = self.state.awake

    def code(self, c):
        """The code of component c has come."""
        self.codes = tuple(sorted(set(self.codes + (c,))))

    def wants(self):
        """The codes that the drawing under way wants and that have not come."""
        if self.drawing is None:
            return ()
        return tuple([code for code in self.drawing.wanted if code not in self.codes])

    def nodes(self):
        """What is shown, each node with its number."""
        return numbered(self.seen(), self.numbering())

    def sight(self):
        """What is shown, without numbers."""
        return sight(self.seen())

    def seen(self):
        """The shown nodes with their paths; a field has the value that it shows."""
        waiting = {path: value for path, (number, value) in self.entered.items() if number not in self.taken}
        return _with_values(self.seen_of_cells(), waiting)

    def seen_of_cells(self):
        """The shown nodes; a field has the value of its cell."""
        if self.whole:
            return self.state.page
        # Parts that have not begun make no difference to the names of what has.
        _, made = make_page(self.program, self.program[2], (), self.reader.present)
        return shown(_begun(made, self.reader.stream()[2]))

    def numbering(self):
        """Those of the shown nodes; before the page is whole each node has its place in the order."""
        return self.state.numbers if self.whole else Numbers()

    def path_of(self, nodes, number):
        """The path of the node with a number among shown nodes; None if there is none."""
        numbers = self.numbering()
        for path, _, _ in flat(nodes):
            if numbers.number(path) == number:
                return path
        return None


def _begun(made, marked):
    """Those of made nodes that have begun; marked: the nodes of the marks for them."""
    found = []
    for node, mark in zip(made, marked):
        if node[0] in ("box", "child"):
            found.append(node[:5] + (_begun(node[5], mark[-1]),))
        else:
            found.append(node)
    return tuple(found)


def _with_values(nodes, values):
    """Shown nodes with other values in the fields at some paths."""
    found = []
    for node in nodes:
        if node[0] == "box":
            found.append(node[:5] + (_with_values(node[5], values),))
        elif node[0] == "input":
            found.append(node[:5] + (values.get(node[1], node[5]),))
        else:
            found.append(node)
    return tuple(found)
