"""The judge of records: whether commits are those of a client."""

from pagewake.deeds import run
from pagewake.pages import sight
from pagewake.states import Drawing, State, numbered, to_take, urgent_left
from pagewake.worlds import page_of


def judge(program, first, deeds, record, tree):
    """Whether a record and the tree that is shown behind it are those of a client."""
    if not isinstance(record, tuple):
        return False
    state = State(program, first)
    ended = 0
    for commit in record:
        if not _is_commit(commit) or not _follows(state, deeds, ended, commit):
            return False
        ended = commit[3]
    return _alike(numbered(state.page, state.numbers), tree)


def shown_behind(program, first, deeds, record, number):
    """What is seen behind so many commits."""
    taken = record[number - 1][4] if number > 0 else ()
    world = run(program, first, tuple([deeds[one][0] for one in taken]))
    return sight(page_of(program, world)[1])


def _is_commit(commit):
    """Whether something has the kinds of a commit, as far as it can be asked about its deeds."""
    if not isinstance(commit, tuple) or len(commit) != 8:
        return False
    return _alike("commit", commit[0]) and isinstance(commit[1], bool) and _is_whole(commit[2]) and _is_whole(commit[3])


def _follows(state, deeds, earlier, commit):
    """Whether a commit may come next; shows what it shows. earlier: when the commit before ended."""
    _, urgent, begun, ended, _, _, _, _ = commit
    if not earlier <= begun <= ended <= len(deeds):
        return False
    is_urgent, taken = to_take(deeds[:begun], state.taken)
    if urgent != is_urgent or len(taken) <= len(state.taken):
        return False
    if not urgent and urgent_left(deeds[:ended], state.taken):
        return False
    return _alike(state.commit(Drawing(state, deeds[:begun]), ended), commit)


def _alike(expected, found):
    """Whether something of whatever kind is just what is expected; True is no 1, and a list no tuple."""
    if isinstance(expected, tuple):
        if not isinstance(found, tuple) or len(found) != len(expected):
            return False
        return all([_alike(one, other) for one, other in zip(expected, found)])
    if isinstance(expected, bool):
        return isinstance(found, bool) and found == expected
    if isinstance(expected, int):
        return _is_whole(found) and found == expected
    return isinstance(found, str) and found == expected


def _is_whole(found):
    return isinstance(found, int) and not isinstance(found, bool)
