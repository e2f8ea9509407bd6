"""Tables of walks: how much of a walk was just read, along the ties of a web."""

from suretexts.cycles import longest_borders
from suretexts.webs import need_walk, need_web


def _state_behind(walk, state, tie):
    """How much of the walk was just read behind so many of its ties and this one."""
    for many in range(state + 1, 0, -1):
        if walk[many - 1] == tie and walk[:many - 1] == walk[state - many + 1:state]:
            return many
    return 0


def plain_table(web, walk):
    """The table of the walk, by trying all lengths."""
    need_web(web)
    need_walk(web, walk)
    return [[_state_behind(walk, state, tie) for tie in range(web.many)] for state in range(len(walk))]


def falls(web, walk):
    """The list of the falls of the states."""
    need_web(web)
    need_walk(web, walk)
    # The fall of a state is the longest border of the ties that it tells of.
    return [0] + longest_borders(walk)[:-1]


def table(web, walk):
    """The table of the walk, row by row from the falls."""
    fallen = falls(web, walk)
    rows = []
    for state, tie in enumerate(walk):
        row = list(rows[fallen[state]]) if state > 0 else [0] * web.many
        row[tie] = state + 1
        rows.append(row)
    return rows
