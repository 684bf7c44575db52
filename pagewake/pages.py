"""Pages made from a program and values, and what they show."""

from pagewake.names import lay_out
from pagewake.values import value


def make_page(program, store, cells, present):
    """The (reads, nodes) of the page's own component."""
    told = {path: values for path, values in cells}
    return _make_component((program, store, told, present), 0, (), ())


def components_of(page):
    """All components of a page in its order, each as (path, component, props, reads)."""
    reads, nodes = page
    return (((), 0, (), reads),) + tuple(_components_in(nodes))


def shown(nodes):
    """The made nodes that are shown: children dissolved, places left out."""
    found = []
    for node in nodes:
        match node:
            case ("box", path, tag, owner, action, inner):
                found.append(("box", path, tag, owner, action, shown(inner)))
            case ("child", _, _, _, _, inner):
                found.extend(shown(inner))
            case ("place", _, _):
                pass
            case _:
                found.append(node)
    return tuple(found)


def sight(nodes):
    """What made nodes show, without paths and owners."""
    return _seen(shown(nodes))


def flat(nodes):
    """All nodes that are shown, each as (path, kind, characters or tag), boxes before what is in them."""
    return tuple(_in_one_row(shown(nodes)))


def _make_component(given, component, path, props):
    """The (reads, nodes) of a component; given: program, store, cells by their paths, parts present."""
    program, store, told, _ = given
    _, initial, contents, _ = program[1][component]
    scope = ("scope", told.get(path, initial), props, store, 0)
    looked = []
    nodes = _make_nodes(given, contents, path, path, scope, looked)
    return tuple(sorted(set(looked))), nodes


def _make_nodes(given, contents, owner, around, scope, looked):
    """The nodes of a row; around: the path of its box or component."""
    row = lay_out(contents, scope, looked)
    return tuple([
        _make_node(given, template, owner, around + (name,), scope[:4] + (index,), looked)
        for name, template, index in row
    ])


def _make_node(given, template, owner, path, scope, looked):
    match template:
        case ("text", characters):
            return ("text", path, characters)
        case ("show", expression):
            return ("text", path, str(value(expression, scope, looked)))
        case ("box", tag, _, action, contents):
            return ("box", path, tag, owner, action, _make_nodes(given, contents, owner, path, scope, looked))
        case ("child", component, _, handed):
            props = tuple([value(prop, scope, looked) for prop in handed])
            return _make_child(given, component, path, props)
        case ("part", part):
            return _make_part(given, part, path)
        case ("input", tag, cell):
            return ("input", path, tag, owner, cell, value(("cell", cell), scope, looked))


def _make_child(given, component, path, props):
    reads, nodes = _make_component(given, component, path, props)
    return ("child", path, component, props, reads, nodes)


def _make_part(given, part, path):
    program, _, _, present = given
    if part not in present:
        return ("place", path, part)
    return _make_child(given, program[3][part], path, ())


def _components_in(nodes):
    found = []
    for node in nodes:
        match node:
            case ("box", _, _, _, _, inner):
                found.extend(_components_in(inner))
            case ("child", path, component, props, reads, inner):
                found.append((path, component, props, reads))
                found.extend(_components_in(inner))
            case _:
                pass
    return found


def _seen(nodes):
    """The sight of shown nodes."""
    found = []
    for node in nodes:
        match node:
            case ("text", _, characters):
                found.append(("text", characters))
            case ("box", _, tag, _, _, inner):
                found.append(("box", tag, _seen(inner)))
            case ("input", _, tag, _, _, entered):
                found.append(("input", tag, entered))
    return tuple(found)


def _in_one_row(nodes):
    """Shown nodes and all within them."""
    found = []
    for node in nodes:
        kind, path, what = node[:3]
        found.append((path, kind, what))
        if kind == "box":
            found.extend(_in_one_row(node[5]))
    return found
