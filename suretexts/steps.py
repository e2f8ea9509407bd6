"""Points, and steps from point to point, of whatever number.

A step is a tuple (point, next point, tie): along a web, or along the product
of a web and a walk, in which one tie may come in several steps.
"""


def parts_in_turn(points, steps):
    """The lots of points that come to each other, each ahead of those to which it leads.

    The steps are searched twice. Points that are left last by the first search
    are begun with in the second one, which goes the steps backward: so it never
    leaves a part for another one that wasn't found already.
    """
    ahead = [[] for _ in range(points)]
    behind = [[] for _ in range(points)]
    for near, far, _ in steps:
        ahead[near].append(far)
        behind[far].append(near)
    left = []
    seen = [False] * points
    for point in range(points):
        if not seen[point]:
            left.extend(_left_from(ahead, point, seen))
    parts = []
    seen = [False] * points
    for point in left[::-1]:
        if not seen[point]:
            parts.append(sorted(_left_from(behind, point, seen)))
    return parts


def _left_from(ends, point, seen):
    """The points that a search in depth from the point leaves, which it marks as seen."""
    left = []
    seen[point] = True
    trail = [(point, 0)]
    while trail != []:
        here, at = trail.pop()
        if at == len(ends[here]):
            left.append(here)
            continue
        trail.append((here, at + 1))
        end = ends[here][at]
        if not seen[end]:
            seen[end] = True
            trail.append((end, 0))
    return left


def _shortest(onward, near, far):
    """The ties of fewest steps from near to far, of which one is come to from the other."""
    came_by = {near: None}
    line = [near]
    at = 0
    while far not in came_by:
        steps = onward[line[at]]
        at += 1
        for step in steps:
            if step[1] not in came_by:
                came_by[step[1]] = step
                line.append(step[1])
    back = []
    here = far
    while here != near:
        back.append(came_by[here][2])
        here = came_by[here][0]
    return back[::-1]


def closed_way(steps):
    """Ties of a closed way of steps, each tie of the steps among them.

    All points of the steps are to come to each other. The way goes from tie to
    tie by fewest steps, and home.
    """
    onward = {}
    firsts = {}
    for step in steps:
        onward.setdefault(step[0], []).append(step)
        firsts.setdefault(step[2], step)
    home = steps[0][0]
    here = home
    ties = []
    gone = {}
    for tie in sorted(firsts):
        if tie in gone:
            continue
        more = _shortest(onward, here, firsts[tie][0]) + [tie]
        ties.extend(more)
        for other in more:
            gone[other] = True
        here = firsts[tie][1]
    return ties + _shortest(onward, here, home)
