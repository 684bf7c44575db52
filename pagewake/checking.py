"""The templates of contents with their places, and the faults of programs."""

from pagewake.errors import ProgramFault

MOST_AROUND = 3
MOST_TEMPLATES = 24


def check(program):
    """Raises a ProgramFault for the fault of a program that counts first, if it has one."""
    for own in range(len(program[1])):
        _check_component(program, own)
    _check_parts(program)


def templates(contents):
    """All templates of contents, those within others too, each as (place, template)."""
    return tuple((place, template) for place, template, _ in _walk(contents, (), ()))


def _walk(contents, before, around):
    """The templates in the order of the text, each as (place, template, kinds around it)."""
    found = []
    for number, template in enumerate(contents):
        place = before + (number,)
        found.append((place, template, around))
        for behind, inner in _rows_within(template):
            found.extend(_walk(inner, place + behind, around + (template[0],)))
    return found


def _rows_within(template):
    """The contents of a template, each with what stands in places before its numbers."""
    match template:
        case ("box", _, _, _, contents):
            return (((), contents),)
        case ("each", _, contents):
            return (((), contents),)
        case ("when", _, contents, others):
            return (((0,), contents), ((1,), others))
        case _:
            return ()


def _check_component(program, own):
    found = _walk(program[1][own][2], (), ())
    earlier = []
    for place, template, around in found:
        reason = _reason(program, own, template, around, earlier)
        if reason is not None:
            raise ProgramFault(own, place, reason)
        if template[0] == "part":
            earlier.append(template[1])
    if len(found) > MOST_TEMPLATES:
        raise ProgramFault(own, (), "too many templates")


def _reason(program, own, template, around, earlier):
    """What is wrong with a template first, or None; earlier: the parts that stood before it."""
    if len(around) > MOST_AROUND:
        return "too deep"
    match template:
        case ("child", component, _, _):
            return None if own < component < len(program[1]) else "unknown component"
        case ("part", part):
            return _reason_of_part(program, own, part, around, earlier)
        case _:
            return None


def _reason_of_part(program, own, part, around, earlier):
    if not 0 <= part < len(program[3]):
        return "unknown part"
    if own != 0 or "when" in around or "each" in around:
        return "part out of place"
    if part in earlier:
        return "part stands twice"
    return None


def _check_parts(program):
    _, components, _, parts = program
    placed = _parts_placed(components)
    for part, component in enumerate(parts):
        if not 0 < component < len(components):
            raise ProgramFault(-1, (part,), "unknown component")
        if part not in placed:
            raise ProgramFault(-1, (part,), "part has no place")


def _parts_placed(components):
    # A slice, since a program without components has no component 0 to look into.
    return [
        template[1]
        for component in components[:1]
        for _, template in templates(component[2])
        if template[0] == "part"
    ]
