"""What sleeps for ever: the components that no client calls, whatever happens."""

from pagewake.checking import templates
from pagewake.names import parts_of


def live_actions(program):
    """The actions that events may do, each as (component, action)."""
    waiting = _actions_of_boxes(program)
    live = {}
    while waiting:
        component, action = waiting.pop()
        if (component, action) not in live and _is_there(program[1][component][3], action):
            live[(component, action)] = True
            waiting.extend(_actions_above(program, component, action))
    return tuple(sorted(live))


def may_be_called(program):
    """The components that a client may call."""
    live = live_actions(program)
    places = _live_places(program, live)
    waiting = [
        own for own, component in enumerate(program[1])
        if _has_live_cells(component, own, live) or _names_one(component[2], places)
    ]
    called = {}
    while waiting:
        number = waiting.pop()
        if number not in called:
            called[number] = True
            waiting.extend(_called_with(program, number))
    return tuple(sorted(called))


def sleepers(program):
    """The components that no client calls."""
    called = may_be_called(program)
    return tuple([number for number in range(len(program[1])) if number not in called])


def never_wanted(program):
    """The components whose codes no client wants."""
    acting = {component: True for component, _ in live_actions(program)}
    return tuple([number for number in sleepers(program) if number not in acting])


def _actions_of_boxes(program):
    """The actions that boxes have, whether they are there or not."""
    return [
        (number, template[3])
        for number, component in enumerate(program[1])
        for _, template in templates(component[2])
        if template[0] == "box" and template[3] is not None
    ]


def _actions_above(program, component, action):
    """The actions that an action reaches by its ups, whether they are there or not."""
    return [
        (host, step[1])
        for host in _hosts(program, component)
        for step in program[1][component][3][action]
        if step[0] == "up"
    ]


def _hosts(program, component):
    """The components in which a component may stand."""
    hosts = [number for number in range(len(program[1])) if component in _children(program, number)]
    return [0] + hosts if component in program[3] else hosts


def _children(program, number):
    """The components of the child templates of a component."""
    return [template[1] for _, template in templates(program[1][number][2]) if template[0] == "child"]


def _live_places(program, live):
    """The store places that live actions put."""
    places = {}
    for component, action in live:
        for step in program[1][component][3][action]:
            if step[0] == "put" and _is_there(program[2], step[1]):
                places[step[1]] = True
    return places


def _has_live_cells(component, number, live):
    """Whether a live action or a field of a component may set its cells."""
    _, cells, contents, actions = component
    if "input" in [template[0] for _, template in templates(contents)]:
        return True
    return any([
        step[0] == "set" and _is_there(cells, step[1])
        for own, action in live if own == number
        for step in actions[action]
    ])


def _names_one(contents, places):
    """Whether an expression in contents names one of some store places."""
    return any([
        place in places
        for _, template in templates(contents)
        for expression in _expressions(template)
        for place in _named(expression)
    ])


def _expressions(template):
    """The expressions of a template itself, without those of what is in it."""
    match template:
        case ("show", expression):
            return (expression,)
        case ("when", expression, _, _):
            return (expression,)
        case ("each", expression, _):
            return (expression,)
        case ("box", _, key, _, _):
            return () if key is None else (key,)
        case ("child", _, key, props):
            return props if key is None else (key,) + props
        case _:
            return ()


def _named(expression):
    """The store places that an expression names, within what is not chosen, too."""
    if expression[0] == "store":
        return [expression[1]]
    return [place for inner in expression[1:] if isinstance(inner, tuple) for place in _named(inner)]


def _called_with(program, number):
    """The components that may be called because another one may be."""
    children = _children(program, number)
    return children + _parts_below_keys(program) if number == 0 else children


def _parts_below_keys(program):
    """The components of the parts that stand within a box with a key."""
    found = {place: template for place, template in templates(program[1][0][2])}
    return [
        program[3][template[1]]
        for place, template in found.items()
        if template[0] == "part" and any([_has_key(found, around) for around in parts_of(place)])
    ]


def _has_key(found, place):
    """Whether there is a box with a key at a place; found: the templates by their places."""
    if place not in found:
        return False
    template = found[place]
    return template[0] == "box" and template[2] is not None


def _is_there(row, at):
    return 0 <= at < len(row)
