"""What a drawing must call, and the numbers of the nodes that it shows."""

from pagewake.pages import components_of
from pagewake.worlds import first_world, page_of

NEW = (("new",),)


class Numbers:
    """Gives numbers to paths, from 0 on, no number twice."""

    def __init__(self):
        self.given = {}
        self.many = 0

    def number(self, path):
        """The number of a path, the next one if it has none."""
        if path not in self.given:
            self.given[path] = self.many
            self.many += 1
        return self.given[path]

    def keep(self, paths):
        """Forgets the numbers of all other paths."""
        self.given = {path: self.given[path] for path in paths if path in self.given}


def needs(program, first, before, after, asleep):
    """The components that must be called, in the order of the page, each as (path, reasons, calls)."""
    sleeping = {path: True for path in asleep}
    earlier = _before(program, first, before, after)
    needed = []
    for path, now in _known(program, after).items():
        reasons = _reasons(earlier[path], now) if path in earlier else NEW
        if reasons:
            calls = 2 if path in sleeping and reasons != NEW else 1
            needed.append((path, reasons, calls))
    return tuple(needed)


def _before(program, first, before, after):
    """What was known of each component before; of those within parts that are taken in, what the server knew."""
    earlier = _known(program, before)
    for part in after[3]:
        if part not in before[3]:
            sent = _known(program, first_world(program, first + (part,)))
            for path, known in sent.items():
                if ("part", part) in path:
                    earlier[path] = known
    return earlier


def _known(program, world):
    """The (store, cells, props, reads) of each component of a world's page, by its path, in the order of the page."""
    cells = {path: values for path, values in world[2]}
    return {
        path: (world[1], cells[path], props, reads)
        for path, _, props, reads in components_of(page_of(program, world))
    }


def _reasons(earlier, now):
    """Why a component that is not new must be called; () if it need not."""
    store, cells, props, reads = earlier
    reasons = []
    if now[1] != cells:
        reasons.append(("cells",))
    if now[2] != props:
        reasons.append(("props",))
    reasons.extend([("store", at) for at in reads if now[0][at] != store[at]])
    return tuple(reasons)
