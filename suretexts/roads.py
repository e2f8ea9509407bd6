"""Roads around walks: a walk of a close web is sure exactly if it has none."""

from suretexts.basics import is_between
from suretexts.parts import need_walk_of_close, way
from suretexts.webs import is_walk, leads


def road_between(web, first, last):
    """A road around each walk from the tie first to the tie last, or None.

    It leads from where the tie last begins to where the tie first leads, and
    hangs on nothing between them.
    """
    ties = web.ties()
    return way(web, ties[last][0], ties[first][1], [first, last])


def road_around(web, walk):
    """A tuple (i, j, road) that is a road around the walk, or None."""
    need_walk_of_close(web, walk)
    tried = {}
    for j in range(1, len(walk)):
        for i in range(1, j + 1):
            ends = (walk[i - 1], walk[j])
            if ends in tried:
                continue
            tried[ends] = True
            road = road_between(web, ends[0], ends[1])
            if road is not None:
                return (i, j, road)
    return None


def leads_around(web, walk, value):
    """Whether any value is a road around the walk of the web, close or not."""
    if not isinstance(value, tuple) or len(value) != 3:
        return False
    i, j, road = value
    if not is_between(j, 1, len(walk) - 1) or not is_between(i, 1, j):
        return False
    if not is_walk(web, road):
        return False
    ties = web.ties()
    ends = (ties[walk[j]][0], ties[walk[i - 1]][1])
    return leads(web, road) == ends and walk[j] not in road and walk[i - 1] not in road


def is_road_around(web, walk, value):
    """Whether any value is a road around the walk."""
    need_walk_of_close(web, walk)
    return leads_around(web, walk, value)


def is_sure(web, walk):
    """Whether the walk is sure."""
    return road_around(web, walk) is None


def goes_on(web, walk):
    """The rising list of the ties by which the walk goes on."""
    if not is_sure(web, walk):
        return []
    onward = web.ties_from(leads(web, walk)[1])
    return [tie for tie in onward if all([road_between(web, first, tie) is None for first in sorted(set(walk))])]


def comes_from(web, walk):
    """The rising list of the ties from which the walk comes."""
    if not is_sure(web, walk):
        return []
    ahead = web.ties_to(leads(web, walk)[0])
    return [tie for tie in ahead if all([road_between(web, tie, last) is None for last in sorted(set(walk))])]
