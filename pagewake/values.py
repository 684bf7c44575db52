"""The values of expressions."""

VALUES = 1000


def value(expression, scope, looked):
    """The value of an expression; the store places that are looked at are added to looked."""
    _, cells, props, store, index = scope
    match expression:
        case ("num", number):
            return number
        case ("cell", at):
            return _item(cells, at)
        case ("prop", at):
            return _item(props, at)
        case ("store", at):
            if _is_there(store, at):
                looked.append(at)
            return _item(store, at)
        case ("index",):
            return index
        case ("plus", left, right):
            return (value(left, scope, looked) + value(right, scope, looked)) % VALUES
        case ("minus", left, right):
            return (value(left, scope, looked) - value(right, scope, looked)) % VALUES
        case ("same", left, right):
            return 1 if value(left, scope, looked) == value(right, scope, looked) else 0
        case ("less", left, right):
            return 1 if value(left, scope, looked) < value(right, scope, looked) else 0
        case ("if", condition, chosen, other):
            # The other one may look at store places, and these must not count.
            if value(condition, scope, looked) != 0:
                return value(chosen, scope, looked)
            return value(other, scope, looked)


def _is_there(row, at):
    return 0 <= at < len(row)


def _item(row, at):
    return row[at] if _is_there(row, at) else 0
