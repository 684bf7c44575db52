"""The marks in which pages and parts are sent."""


def write_page(page):
    """The text of a page as make_page gives it."""
    reads, nodes = page
    return _numbers(reads) + " " + _nodes(nodes) + "!"


def write_part(k, reads, nodes):
    """The text of a part: one that is present in a page, or one that comes behind it."""
    return "{" + str(k) + ":" + _numbers(reads) + " " + _nodes(nodes) + "}"


def _nodes(nodes):
    return "".join([_node(node) for node in nodes])


def _node(node):
    match node:
        case ("text", _, characters):
            return "'" + characters + "'"
        case ("box", path, tag, _, action, inner):
            return "(" + _words([_name(path[-1]), tag, _action(action)]) + _nodes(inner) + ")"
        case ("child", path, component, props, reads, inner):
            return _child(path[-1], component, props, reads, inner)
        case ("place", _, part):
            return "{" + str(part) + "}"
        case ("input", path, tag, _, cell, entered):
            return f"<{_name(path[-1])} {tag} {cell} {entered}>"


def _child(name, component, props, reads, inner):
    if name[0] == "part":
        return write_part(name[1], reads, inner)
    return "[" + _words([_name(name), str(component), _numbers(props), _numbers(reads)]) + _nodes(inner) + "]"


def _words(words):
    """Words with a space behind each, the last one too."""
    return "".join([word + " " for word in words])


def _name(name):
    match name:
        case ("key", address, worth):
            return f"k{_numbers(address)}={worth}"
        case ("at", address, repeats):
            return f"a{_numbers(address)}/{_numbers(repeats)}"


def _action(action):
    return "-" if action is None else str(action)


def _numbers(numbers):
    if not numbers:
        return "-"
    return ".".join([str(number) for number in numbers])
