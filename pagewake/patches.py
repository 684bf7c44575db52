"""Patches: the operations that make one shown tree of another."""


class Growing:
    """A tree that is changed by operations."""

    def __init__(self, tree):
        # Number of a node -> the node, a box with nothing in it.
        self.bare = {}
        # Number of a box, None for the top -> the numbers of what is in it.
        self.rows = {parent: numbers for parent, numbers in _rows(tree)}
        # Number of a node that is somewhere -> that of its box.
        self.around = {}
        for parent, node in _listed(tree, None):
            self.bare[node[1]] = _bare(node)
            self.around[node[1]] = parent

    def change(self, operation):
        """Does an operation."""
        match operation:
            case ("take", number):
                self.leave(number)
            case ("text", number, characters):
                self.bare[number] = ("text", number, characters)
            case ("value", number, entered):
                self.bare[number] = self.bare[number][:3] + (entered,)
            case ("make", node):
                self.bare[node[1]] = node
                if node[0] == "box":
                    self.rows[node[1]] = []
            case ("put", number, parent, behind):
                self.leave(number)
                self.put(number, parent, behind)

    def leave(self, number):
        """A node goes from where it is, if it is somewhere."""
        if number in self.around:
            row = self.rows[self.around[number]]
            row.remove(number)
            del self.around[number]

    def put(self, number, parent, behind):
        """A node comes into a box, before another one or behind all."""
        row = self.rows[parent]
        row.insert(len(row) if behind is None else row.index(behind), number)
        self.around[number] = parent

    def tree(self, parent):
        """The nodes of a box with all in them, None: those of the top."""
        return tuple([
            self.bare[number][:3] + (self.tree(number),) if number in self.rows else self.bare[number]
            for number in self.rows[parent]
        ])


def patch(before, after):
    """The operations that make the second tree of the first."""
    earlier = {node[1]: node for _, node in _listed(before, None)}
    later = {node[1]: node for _, node in _listed(after, None)}
    operations = [
        ("take", node[1]) for parent, node in _listed(before, None)
        if node[1] not in later and (parent is None or parent in later)
    ]
    for number, node in later.items():
        operations.extend(_changes(earlier, number, node))
    rows = {parent: numbers for parent, numbers in _rows(before)}
    for parent, numbers in _rows(after):
        operations.extend(_puts(parent, rows.get(parent, []), numbers))
    return tuple(operations)


def apply_patch(tree, operations):
    """The tree behind operations."""
    growing = Growing(tree)
    for operation in operations:
        growing.change(operation)
    return growing.tree(None)


def fewest(before, after):
    """How many nodes that were there before are put, and the rows of those that are not, as (parent, numbers)."""
    rows = {parent: numbers for parent, numbers in _rows(before)}
    many = 0
    staying = []
    for parent, numbers in _rows(after):
        earlier = rows.get(parent, [])
        row = _staying(earlier, numbers)
        many += len([number for number in numbers if number in earlier]) - len(row)
        if row:
            staying.append((parent, tuple(row)))
    return (many, tuple(staying))


def _listed(nodes, parent):
    """All nodes of a tree, each as (number of its box, node), a box before what is in it."""
    found = []
    for node in nodes:
        found.append((parent, node))
        if node[0] == "box":
            found.extend(_listed(node[3], node[1]))
    return found


def _rows(tree):
    """The numbers of what is in the top and in each box, each as (number of the box, numbers)."""
    rows = [(None, [node[1] for node in tree])]
    for _, node in _listed(tree, None):
        if node[0] == "box":
            rows.append((node[1], [inner[1] for inner in node[3]]))
    return rows


def _bare(node):
    """A node, a box with nothing in it."""
    return node[:3] + ((),) if node[0] == "box" else node


def _changes(earlier, number, node):
    """The operations that make a node, or what it shows, of an earlier one."""
    if number not in earlier:
        return [("make", _bare(node))]
    if node[0] == "text" and node[2] != earlier[number][2]:
        return [("text", number, node[2])]
    if node[0] == "input" and node[3] != earlier[number][3]:
        return [("value", number, node[3])]
    return []


def _puts(parent, earlier, later):
    """The puts that make the later row of a box of the earlier one, the last node first."""
    stays = {number: True for number in _staying(earlier, later)}
    behind = None
    puts = []
    for number in reversed(later):
        if number not in stays:
            puts.append(("put", number, parent, behind))
        behind = number
    return puts


def _staying(earlier, later):
    """The longest row of numbers that stand in the same order in both, the first such one in the later row."""
    places = {number: place for place, number in enumerate(earlier)}
    both = [number for number in later if number in places]
    lengths = _lengths([places[number] for number in both])
    left = max(lengths, default=0)
    place = -1
    found = []
    # The first one from which a row as long as is left goes on makes the places the least.
    for number, length in zip(both, lengths):
        if length == left and places[number] > place:
            found.append(number)
            place = places[number]
            left -= 1
    return found


def _lengths(places):
    """For each place how long the longest rising row is that begins with it and goes on behind it."""
    lengths = [1 for _ in places]
    for at in reversed(range(len(places))):
        for behind in range(at + 1, len(places)):
            if places[behind] > places[at]:
                lengths[at] = max(lengths[at], lengths[behind] + 1)
    return lengths
