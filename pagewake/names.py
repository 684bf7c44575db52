"""The names of nodes among their siblings, and the beginnings of paths."""

from pagewake.values import value

REPEATS = 6


def lay_out(contents, scope, looked):
    """The row of nodes of contents, each as (name, template, index of the innermost repeat)."""
    row = []
    taken = {}
    for wished, other, template, index in _dissolved(contents, (), (), scope, looked):
        name = other if wished in taken else wished
        taken[name] = True
        row.append((name, template, index))
    return tuple(row)


def parts_of(path):
    """All proper beginnings of a path, the shortest first."""
    return tuple([path[:many] for many in range(len(path))])


def _dissolved(contents, before, repeats, scope, looked):
    """The row of contents, each node as (wished name, other name, template, index)."""
    found = []
    for number, template in enumerate(contents):
        address = before + (number,)
        match template:
            case ("when", condition, chosen, others):
                holds = value(condition, scope, looked) != 0
                behind = address + ((0,) if holds else (1,))
                found.extend(_dissolved(chosen if holds else others, behind, repeats, scope, looked))
            case ("each", count, repeated):
                for turn in range(value(count, scope, looked) % REPEATS):
                    inner = scope[:4] + (turn,)
                    found.extend(_dissolved(repeated, address, repeats + (turn,), inner, looked))
            case _:
                other = ("at", address, repeats)
                wished = _wished(template, other, scope, looked)
                found.append((wished, other, template, scope[4]))
    return found


def _wished(template, other, scope, looked):
    """The name of a node if no earlier one has it; other: its name if one has."""
    match template:
        case ("box", _, key, _, _):
            return _by_key(key, other, scope, looked)
        case ("child", _, key, _):
            return _by_key(key, other, scope, looked)
        case ("part", part):
            return ("part", part)
        case _:
            return other


def _by_key(key, other, scope, looked):
    if key is None:
        return other
    return ("key", other[1], value(key, scope, looked))
