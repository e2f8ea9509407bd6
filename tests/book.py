"""A plain book of lots and claims: what a desk is to tell, made anew of its lines each time."""

from suretexts import errors
from suretexts.lots import Lot, both_lots
from suretexts.pieces import PieceWeb
from tests.claims import is_plainly_so
from tests.webs import plainly_close


def plain_lot(size, times):
    """The lot of a dict of texts with times, of which a reading has twenty at most."""
    lot = Lot(size, [])
    for text, many in times.items():
        while many > 0:
            lot = both_lots(lot, Lot(size, [(text, min(many, 20))]))
            many -= 20
    return lot


def replay(lines):
    """The dict of names with (size, dict of texts with times), and that of labels with words, behind some deeds."""
    lots, claims = {}, {}
    for line in lines:
        word, first, *more = line.split(" ")
        texts = ["" if part == "-" else part for part in more]
        if word == "lot":
            lots[first] = (int(more[0]), {})
        elif word == "read":
            size, *rows = " ".join(more).split("; ")
            told = [row.split(" ") for row in rows]
            lots[first] = (int(size[5:]), {"" if row[2] == "-" else row[2]: int(row[1]) for row in told})
        elif word in ("add", "take"):
            size, times = lots[first]
            many = int(more[0]) if word == "add" else -int(more[0])
            times = {**times, texts[1]: times.get(texts[1], 0) + many}
            lots[first] = (size, {text: count for text, count in times.items() if count})
        elif word == "both":
            times = dict(lots[more[0]][1])
            for text, count in lots[more[1]][1].items():
                times[text] = times.get(text, 0) + count
            lots[first] = (lots[more[0]][0], times)
        elif word == "copy":
            lots[first] = lots[more[0]]
        elif word == "drop":
            del lots[first]
        elif word == "claim":
            claims[first] = " ".join(more)
        else:
            del claims[first]
    return lots, claims


def plain_solid(kept, least):
    size, times = kept
    often = {}
    for text, many in times.items():
        for at in range(len(text) - size + 1):
            often[text[at:at + size]] = often.get(text[at:at + size], 0) + many
    return sorted(piece for piece, many in often.items() if many >= least)


def are_pieces(solid):
    return 1 <= len(solid) <= 80 and len({word for piece in solid for word in (piece[1:], piece[:-1])}) <= 60


def claim_of(solid, parts):
    """The tuple of the claim, with whether it is one."""
    word = parts[0]
    if word in ("certain", "doubtful"):
        return (word, solid, parts[3]), plainly_close(PieceWeb(solid).web()) and len(parts[3]) >= len(solid[0])
    web = PieceWeb(solid).web()
    if word in ("cheap", "dear"):
        return (word, web, [1] * web.many, int(parts[3])), plainly_close(web)
    if word in ("sure", "loose"):
        walk, ties = [int(part) for part in parts[3].split(",")], web.ties()
        goes = all(tie < web.many for tie in walk) and all(
            ties[one][1] == ties[two][0] for one, two in zip(walk, walk[1:]))
        return (word, web, walk), plainly_close(web) and goes
    return (word, web), True


def claim_now(lots, words):
    """The claim as it is of the lots, or None while it is gone."""
    parts = words.split(" ")
    if parts[1] not in lots:
        return None
    solid = plain_solid(lots[parts[1]], int(parts[2]))
    if not are_pieces(solid):
        return None
    claim, is_one = claim_of(solid, parts)
    return claim if is_one else None


def state_of(lots, words):
    claim = claim_now(lots, words)
    return "gone" if claim is None else "true" if is_plainly_so(claim) else "false"


def states_of(lines):
    lots, claims = replay(lines)
    return {label: state_of(lots, words) for label, words in claims.items()}


def changes(before, after):
    told = [f"{label} {state}" for label, state in sorted(after.items()) if before.get(label) != state]
    return ", ".join(told) or "-"


def unknown_in(lots, claims, line):
    """The error over a name or a label that is in use or isn't, with its value; None if there is none."""
    word, first, *more = line.split(" ")
    if word in ("lot", "read", "both", "copy") and first in lots:
        return errors.NameTaken, {"name": first}
    if word == "claim" and first in claims:
        return errors.LabelTaken, {"label": first}
    names = {"add": [first], "take": [first], "drop": [first], "both": more, "copy": more,
             "claim": more[1:2]}.get(word, [])
    for name in names:
        if name not in lots:
            return errors.UnknownName, {"value": name}
    if word == "forget" and first not in claims:
        return errors.UnknownLabel, {"value": first}
    return None


def failing(lines, line):
    """The error of a deed behind some others, with its attributes; None if it goes."""
    lots, claims = replay(lines)
    unknown = unknown_in(lots, claims, line)
    if unknown is not None:
        return unknown
    word, first, *more = line.split(" ")
    if word == "lot" and not 2 <= int(more[0]) <= 8:
        return errors.InvalidSize, {"value": int(more[0])}
    if word in ("add", "take"):
        text, many = more[1].strip("-"), int(more[0])
        if not 1 <= many <= 20:
            return errors.InvalidTimes, {"value": many}
        read = lots[first][1].get(text, 0)
        if word == "take" and read < many:
            return (errors.FewTimes, {}) if read else (errors.NotRead, {"text": text})
    if word == "both" and lots[more[0]][0] != lots[more[1]][0]:
        return errors.UnlikeSizes, {}
    if word == "claim":
        if more[2] == "0":
            return errors.InvalidLeast, {"value": 0}
        solid = plain_solid(lots[more[1]], int(more[2]))
        if not are_pieces(solid):
            return errors.InvalidPieces, {"value": solid}
        claim, is_one = claim_of(solid, more)
        if not is_one:
            return errors.InvalidClaim, {"value": claim}
        if len(claims) == 8:
            return errors.TooMany, {"what": "labels", "limit": 8}
    if word in ("lot", "read", "both", "copy") and len(lots) == 8:
        return errors.TooMany, {"what": "names", "limit": 8}
    return (errors.TooMany, {"what": "deeds", "limit": 200}) if len(lines) == 200 else None
