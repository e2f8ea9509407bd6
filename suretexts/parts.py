"""Which places of a web come to which, and the parts in which all do."""

from suretexts.basics import is_count, is_listed
from suretexts.errors import InvalidPart, InvalidWithout, NotClose
from suretexts.steps import parts_in_turn
from suretexts.webs import Web, are_numbers, need_place, need_walk, need_web, web_steps


def _need_without(web, without):
    if not are_numbers(web, without):
        raise InvalidWithout(without)


def _places_to(web, without):
    """For each place the places to which its ties lead, but for these ties."""
    ends = [[] for _ in range(web.places)]
    for tie, (near, far) in enumerate(web.ties()):
        if tie not in without:
            ends[near].append(far)
    return ends


def reach(web, place, without):
    """The places to which one comes from the place without these ties."""
    need_web(web)
    need_place(web, place)
    _need_without(web, without)
    ends = _places_to(web, without)
    seen = {place: True}
    waiting = [place]
    while waiting != []:
        here = waiting.pop()
        for end in ends[here]:
            if end not in seen:
                seen[end] = True
                waiting.append(end)
    return sorted(seen)


def way(web, near, far, without):
    """A shortest walk of a tie or more from near to far without these ties, or None."""
    need_web(web)
    need_place(web, near)
    need_place(web, far)
    _need_without(web, without)
    ties = web.ties()
    # The place near counts as come to only by a tie, since one tie is wanted at least.
    came_by = {}
    line = [near]
    at = 0
    while at < len(line) and far not in came_by:
        place = line[at]
        at += 1
        for tie in web.ties_from(place):
            end = ties[tie][1]
            if tie not in without and end not in came_by:
                came_by[end] = tie
                line.append(end)
    return _walk_back(ties, came_by, near, far) if far in came_by else None


def _walk_back(ties, came_by, near, far):
    back = [came_by[far]]
    while ties[back[-1]][0] != near:
        back.append(came_by[ties[back[-1]][0]])
    return back[::-1]


def plain_parts(web):
    """The sorted list of the parts, by what each place comes to."""
    need_web(web)
    reached = [reach(web, place, []) for place in range(web.places)]
    parts = []
    for place in range(web.places):
        part = [other for other in reached[place] if place in reached[other]]
        if part[0] == place:
            parts.append(part)
    return parts


def parts_of(web):
    """The sorted list of the parts, by two searches that pass each tie once."""
    need_web(web)
    return sorted(parts_in_turn(web.places, web_steps(web)))


def is_close(web):
    """Whether the web is close."""
    need_web(web)
    return web.many > 0 and len(parts_of(web)) == 1


def is_single_ring(web):
    """Whether the web is close and has as many ties as places."""
    return is_close(web) and web.many == web.places


def need_close(web):
    if not is_close(web):
        raise NotClose()


def need_walk_of_close(web, walk):
    need_web(web)
    need_walk(web, walk)
    need_close(web)


def _need_part(web, part):
    # A bool is equal to a place, so it would be found in a part as well.
    if not is_listed(part) or not all([is_count(place) for place in part]) or list(part) not in parts_of(web):
        raise InvalidPart(part)


def part_web(web, part):
    """The tuple of the web of the part and the rising list of its ties' numbers."""
    need_web(web)
    _need_part(web, part)
    anew = {place: at for at, place in enumerate(part)}
    ties = web.ties()
    within = [tie for tie, (near, far) in enumerate(ties) if near in anew and far in anew]
    return (Web(len(part), [(anew[ties[tie][0]], anew[ties[tie][1]]) for tie in within]), within)
