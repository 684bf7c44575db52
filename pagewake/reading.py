"""What has been read of a beginning of a stream."""

# First sign of a node -> the sign with which it has begun, and how many of them there are until then.
BEGINNINGS = {"'": ("'", 2), "(": (" ", 3), "[": (" ", 4), "<": (">", 1)}


class Begun:
    """Something with nodes in it that has begun: its words, its nodes up to now, whether it has ended."""

    def __init__(self, head):
        self.head = head
        self.inner = []
        self.whole = False


class Reader:
    """Reads a stream sign by sign, so that it may be cut anywhere."""

    def __init__(self):
        self.page = None
        self.parts = []
        # The parts that are present in the page, as far as they have begun.
        self.present = ()
        # What has begun and not ended, the innermost last.
        self.around = []
        # The signs of what has not begun yet.
        self.held = ""

    def feed(self, text):
        """Reads more of the stream."""
        for sign in text:
            if self.held == "" and self.page is not None and sign in ")]}!":
                ended = self.around.pop()
                ended.whole = True
            else:
                self.held += sign
                self.look()

    def look(self):
        """Lets begin what is held, if all of its words have come."""
        if self.page is None:
            if self.held[-1] == " ":
                self.page = self.begin((_numbers(self.held[:-1]),))
        elif self.held[0] == "{":
            self.look_at_part()
        else:
            last, many = BEGINNINGS[self.held[0]]
            if self.held.count(last) == many:
                self.begin_node()

    def look_at_part(self):
        """A place, a part that is present in the page, or one behind the page."""
        if self.held[-1] == "}":
            self.around[-1].inner.append(("place", int(self.held[1:-1])))
            self.held = ""
        elif self.held[-1] == " ":
            part, _, reads = self.held[1:-1].partition(":")
            head = (int(part), _numbers(reads))
            if self.around:
                self.present = self.present + (head[0],)
                self.begin_within(("present",) + head)
            else:
                self.parts.append(self.begin(head))

    def begin_node(self):
        """A text, a field, a box or a child."""
        match self.held[0]:
            case "'":
                self.around[-1].inner.append(("text", self.held[1:-1]))
                self.held = ""
            case "<":
                self.around[-1].inner.append(_field(self.held[1:-1].split(" ")))
                self.held = ""
            case "(":
                self.begin_within(_box(self.held[1:-1].split(" ")))
            case _:
                self.begin_within(_child(self.held[1:-1].split(" ")))

    def begin_within(self, head):
        """Something with nodes in it begins within what is around."""
        row = self.around[-1].inner
        row.append(self.begin(head))

    def begin(self, head):
        """Something with nodes in it begins; what comes is read into it."""
        begun = Begun(head)
        self.around.append(begun)
        self.held = ""
        return begun

    def stream(self):
        """What has been read up to now."""
        if self.page is None:
            return ("stream", None, (), False, ())
        parts = [part.head + (_marked(part.inner), part.whole) for part in self.parts]
        return ("stream",) + self.page.head + (_marked(self.page.inner), self.page.whole, tuple(parts))


def read(text):
    """What has been read of a beginning of a stream."""
    reader = Reader()
    reader.feed(text)
    return reader.stream()


def _marked(row):
    """The marked nodes of a row that is being read."""
    return tuple([
        node if isinstance(node, tuple) else node.head + (_marked(node.inner),)
        for node in row
    ])


def _box(words):
    name, tag, action = words
    return ("box", _name(name), tag, None if action == "-" else int(action))


def _child(words):
    name, component, props, reads = words
    return ("child", _name(name), int(component), _numbers(props), _numbers(reads))


def _field(words):
    name, tag, cell, entered = words
    return ("input", _name(name), tag, int(cell), int(entered))


def _name(word):
    if word[0] == "k":
        address, _, worth = word[1:].partition("=")
        return ("key", _numbers(address), int(worth))
    address, _, repeats = word[1:].partition("/")
    return ("at", _numbers(address), _numbers(repeats))


def _numbers(word):
    if word == "-":
        return ()
    return tuple([int(number) for number in word.split(".")])
