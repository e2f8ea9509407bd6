"""Bubbles of webs: where ways part and meet again, with nothing coming in or going out between."""

from suretexts.errors import NotBubble, TooMany
from suretexts.prices import need_prices
from suretexts.steps import parts_in_turn
from suretexts.webs import need_place, need_web

MOST_WAYS = 400


def _need_places(web, begin, end):
    need_web(web)
    need_place(web, begin)
    need_place(web, end)


def _spread(ends, start, last):
    """The places to which one comes from the start by these ends, not going on from the last place."""
    seen = {start: True}
    waiting = [start]
    while waiting != []:
        place = waiting.pop()
        onward = [] if place == last else ends[place]
        for end in onward:
            if end not in seen:
                seen[end] = True
                waiting.append(end)
    return seen


def _ends_from(web, ties):
    """For each place the places to which these of the ties lead from it."""
    ends = [[] for _ in range(web.places)]
    for near, far in ties:
        ends[near].append(far)
    return ends


def _inside_of(web, begin, end):
    """The one lot of places that can show that the tuple is shut, as a dict."""
    return _spread(_ends_from(web, web.ties()), begin, end)


def _inner_ties(web, lot, begin, end):
    """The inner ties (from, to) of the lot; None if a tie comes in, or goes out, between."""
    inner = []
    for near, far in web.ties():
        goes = near in lot and near != end
        comes = far in lot and far != begin
        if goes != comes:
            return None
        if goes:
            inner.append((near, far))
    return inner


def _have_no_round(web, ties):
    """Whether these ties lead from no place back to itself."""
    if not all([near != far for near, far in ties]):
        return False
    steps = [(near, far, 0) for near, far in ties]
    return len(parts_in_turn(web.places, steps)) == web.places


def _is_shut(web, begin, end):
    lot = _inside_of(web, begin, end)
    if begin == end or end not in lot:
        return False
    inner = _inner_ties(web, lot, begin, end)
    if inner is None or not _have_no_round(web, inner):
        return False
    # All of the lot is come to by inner ties, since so it was found; whether it leads to the end is asked.
    back = [(far, near) for near, far in inner]
    leading = _spread(_ends_from(web, back), end, None)
    return all([place in leading for place in lot])


def _is_bubble(web, begin, end):
    if len(web.ties_from(begin)) < 2 or not _is_shut(web, begin, end):
        return False
    within = _inside_of(web, begin, end)
    return not any([_is_shut(web, begin, other) for other in within if other != end])


def is_shut(web, begin, end):
    """Whether the tuple of the places is shut."""
    _need_places(web, begin, end)
    return _is_shut(web, begin, end)


def is_bubble(web, begin, end):
    """Whether the tuple of the places is a bubble."""
    _need_places(web, begin, end)
    return _is_bubble(web, begin, end)


def plain_bubbles(web):
    """The sorted list of the bubbles, by trying all tuples."""
    need_web(web)
    places = range(web.places)
    return [(begin, end) for begin in places for end in places if _is_bubble(web, begin, end)]


def _marked_with(web, marked, place):
    """The marked places when this one is passed: it no more, the ends of its ties for it."""
    ends = [web.ties()[tie][1] for tie in web.ties_from(place)]
    return sorted(set([other for other in marked if other != place] + ends))


def _may_be_passed(web, place, passed):
    """Whether all ties to the place come from passed ones."""
    return all([web.ties()[tie][0] in passed for tie in web.ties_to(place)])


def _searched(web, begin):
    """The tuple (places passed one after the other, end) of the bubble from the begin, or None."""
    if len(web.ties_from(begin)) < 2:
        return None
    passed = [begin]
    marked = _marked_with(web, [], begin)
    while begin not in marked and web.ties_from(passed[-1]) != []:
        free = [place for place in marked if _may_be_passed(web, place, passed)]
        if free == []:
            return None
        if len(marked) == 1:
            return (passed, free[0])
        passed.append(free[0])
        marked = _marked_with(web, marked, free[0])
    return None


def _end_of(web, place):
    found = _searched(web, place)
    return None if found is None else found[1]


def bubble_end(web, place):
    """The end of the bubble that begins at the place, or None."""
    need_web(web)
    need_place(web, place)
    return _end_of(web, place)


def bubbles(web):
    """The sorted list of the bubbles, by a search from each place."""
    need_web(web)
    ends = [(place, _end_of(web, place)) for place in range(web.places)]
    return [(begin, end) for begin, end in ends if end is not None]


def _passed_within(web, begin, end):
    """The places of a bubble but its end, one after the other, each behind all that lead to it."""
    found = _searched(web, begin)
    if found is None or found[1] != end:
        raise NotBubble()
    return found[0]


def inside(web, begin, end):
    """The rising list of the places inside a bubble, both its ends with them."""
    _need_places(web, begin, end)
    return sorted(_passed_within(web, begin, end) + [end])


def _gone_on(web, end, walks):
    """The walks, each that is not at the end gone on with in all ways by one tie."""
    ties = web.ties()
    longer = []
    for walk in walks:
        place = ties[walk[-1]][1]
        if place == end:
            longer.append(walk)
        else:
            longer.extend([walk + [tie] for tie in web.ties_from(place)])
    return longer


def ways_through(web, begin, end):
    """The sorted list of the ways through a bubble."""
    _need_places(web, begin, end)
    passed = _passed_within(web, begin, end)
    walks = [[tie] for tie in web.ties_from(begin)]
    # No way passes a place twice; and each walk goes on to a way of its own, so many walks tell of many ways.
    for _ in passed:
        if len(walks) > MOST_WAYS:
            raise TooMany("ways", MOST_WAYS)
        walks = _gone_on(web, end, walks)
    return sorted(walks)


def shortest_way(web, begin, end, prices):
    """The tuple (least sum of prices of a way through a bubble, the first way with this sum)."""
    _need_places(web, begin, end)
    need_prices(web, prices)
    passed = _passed_within(web, begin, end)
    ties = web.ties()
    best = {end: (0, [])}
    for place in passed[::-1]:
        onward = [(tie, best[ties[tie][1]]) for tie in web.ties_from(place)]
        best[place] = min([(prices[tie] + price, [tie] + way) for tie, (price, way) in onward])
    return best[begin]
