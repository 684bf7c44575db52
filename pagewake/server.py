"""The server: it sends a page, and behind it the parts that become ready later."""

from pagewake.marks import write_page, write_part
from pagewake.worlds import first_world, page_of


class Server:
    """Makes and sends the page of a program and its parts."""

    def __init__(self, program):
        self.program = program
        self.sent = ""
        self.ready = ()

    def resolve(self, k):
        """Part k is ready; gives its text if it comes behind the page and was not ready before."""
        if k in self.ready:
            return ""
        self.ready = tuple(sorted(self.ready + (k,)))
        if not self.was_rendered():
            return ""
        _, nodes = page_of(self.program, first_world(self.program, (k,)))
        return self.send(_part_text(nodes, k))

    def render(self):
        """The text of the page the first time, then nothing."""
        if self.was_rendered():
            return ""
        return self.send(write_page(page_of(self.program, first_world(self.program, self.ready))))

    def was_rendered(self):
        """Whether the page was sent; its text is never empty."""
        return self.sent != ""

    def send(self, text):
        """Sends a text and gives it."""
        self.sent += text
        return text


def _part_text(nodes, part):
    """The text of a part that is present among nodes of the page's own component, "" if it is not there."""
    for node in nodes:
        if node[0] == "child" and node[1][-1] == ("part", part):
            return write_part(part, node[4], node[5])
        if node[0] == "box":
            text = _part_text(node[5], part)
            if text != "":
                return text
    return ""
