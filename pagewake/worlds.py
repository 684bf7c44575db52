"""Worlds: the store, the cells of a page's components and the parts that are present."""

from pagewake.pages import components_of, make_page


def first_world(program, present):
    """The settled world with the store and the cells as the program tells them at first."""
    return settle(program, program[2], (), present)


def settle(program, store, cells, present):
    """The world whose cells are those of the components of its page."""
    rising = tuple(sorted(set(present)))
    told = {path: values for path, values in cells}
    page = make_page(program, store, cells, rising)
    settled = tuple([
        (path, told.get(path, program[1][component][1]))
        for path, component, _, _ in components_of(page)
    ])
    return ("world", store, settled, rising)


def page_of(program, world):
    """The page of a world, as make_page gives it."""
    _, store, cells, present = world
    return make_page(program, store, cells, present)


def cells_at(world, path):
    """The values of the cells of the component at a path, None if there is none."""
    for own, values in world[2]:
        if own == path:
            return values
    return None
