"""A small checker of papers."""

from lightsout.closed import are_standings, does_harm, is_closed
from lightsout.events import event_done, event_told, first_stage
from lightsout.house import is_row
from lightsout.lots import ASKING, Shades, first_standing, free_from, guest_moves, harms_of, is_caps, is_lot, moves_from
from lightsout.watched import WATCHED, free_moves, is_empty, others_of, own_step, watched_moves


def _is_row_of(value, many):
    """Whether any value is a tuple of so many things."""
    return isinstance(value, tuple) and len(value) == many


def _story_holds(world, harm, caps, value):
    """Whether any value is a story by numbers that ends with a harm."""
    if not isinstance(value, tuple):
        return False
    standing, ended = first_stage(world), None
    for event in value:
        told = event_told(world, event)
        done = None if told is None or ended is not None else event_done(world, standing, told)
        if done is None:
            return False
        standing, ended = done
    came = [value.count("come " + kind.name) for kind in world.kinds]
    return ended == harm and all([cap is None or many <= cap for many, cap in zip(came, caps)])


def _led_to(world, caps, steps):
    """The standing to which any value leads that may be steps by lots, and the harm of the last one; None else."""
    if not isinstance(steps, tuple):
        return None
    standing, harm = first_standing(world, caps), None
    for what in steps:
        found = [move for move in moves_from(world, caps, standing) if move[0] == what]
        if harm is not None or not found:
            return None
        _, standing, harm = found[0]
    return standing, harm


def _lots_hold(world, harm, caps, value):
    """Whether any value is a story by lots that ends with a harm."""
    led = _led_to(world, caps, value)
    return led is not None and led[1] == harm


def _is_closed_tuple(world, caps, value, free):
    """Whether any value is a closed tuple, where a greater standing serves when so many deeds are done."""
    return isinstance(value, tuple) and are_standings(world, caps, value) and is_closed(world, caps, value, free)


def _never_holds(world, harm, caps, value):
    """Whether any value is a closed tuple, no move of which does a harm."""
    return _is_closed_tuple(world, caps, value, free_from(world, ASKING)) and not does_harm(world, caps, value, harm)


def _calm_holds(world, harm, caps, value):
    """Whether any value is a closed tuple, no move of which does any harm; `harm` is None."""
    if not _is_closed_tuple(world, caps, value, free_from(world, ("drain",))):
        return False
    return not does_harm(world, caps, value, harm)


def _is_triple(world, part, caps, value):
    """Whether any value is a triple of a watch in a part."""
    if not _is_row_of(value, 3) or not _is_pair(world, caps, value[:2]):
        return False
    return value[2] in value[1] and value[2][2] == part


def _is_pair(world, caps, value):
    """Whether any value is a house row with places."""
    return _is_row_of(value, 2) and is_row(world.house, value[0]) and is_lot(world.house, world.kinds, caps, value[1])


def _shut_in_holds(world, part, caps, value):
    """Whether any value leads to somebody in a part who can never leave it, with the watch that tells so."""
    if not _is_row_of(value, 3) or not isinstance(value[2], tuple):
        return False
    steps, place, watch = value
    led = _led_to(world, caps, steps)
    if led is None or led[1] is not None or led[0][2] < len(world.plan.deeds):
        return False
    row, places, _ = led[0]
    if place not in places or place[2] != part or not all([_is_triple(world, part, caps, triple) for triple in watch]):
        return False
    shades = Shades(caps)
    due = [(row, places, place)]
    for triple in watch:
        shades.put(triple[0], triple[1], triple[2])
        due.extend([behind for _, behind in watched_moves(world, caps, triple)])
    return all([shades.has_greater(after, lot, to) for after, lot, to in due])


def _is_way_out(world, caps, triple, way):
    """Whether any value is a way by the last step of which a watched one leaves his part."""
    if not isinstance(way, tuple):
        return False
    row, places, place = triple
    part = place[2]
    others = others_of(caps, places, place)
    for at, what in enumerate(way):
        if what == WATCHED:
            done = own_step(world, caps, row, others, place)
        else:
            done = _others_step(world, caps, row, others, place, what)
        if done is None:
            return False
        row, others, place = done
        if place[2] != part:
            return at + 1 == len(way)
    return False


def _others_step(world, caps, row, others, place, what):
    """House row, the others' places and the watched one's behind a move of the others without a harm, None else."""
    for told, after, lot, harm in guest_moves(world.house, world.kinds, caps, row, others):
        if told == what and harm is None:
            return after, lot, place
    return None


def _comes_out_holds(world, part, caps, value):
    """Whether any value tells a way out for all who are in a part when the plan is done."""
    if not _is_row_of(value, 2) or not _is_closed_tuple(world, caps, value[0], len(world.plan.deeds) + 1):
        return False
    asked = []
    for row, places, hand in value[0]:
        if hand == len(world.plan.deeds):
            unlike = {place: True for place in places if place[2] == part}
            asked.extend([(row, places, place) for place in unlike])
    if not _is_row_of(value[1], len(asked)):
        return False
    return all([_is_way_out(world, caps, triple, way) for triple, way in zip(asked, value[1])])


def _is_ahead_of_drain(world, part, standing):
    """Whether the next deed of a standing is a drain of a part."""
    return world.plan.deeds[standing[2]:][:1] == (("drain", world.house.parts[part]),)


def _for_ever_holds(world, part, caps, value):
    """Whether any value leads to a drain that can never be done, with the stay that tells so."""
    if not _is_row_of(value, 2) or not isinstance(value[1], tuple):
        return False
    led = _led_to(world, caps, value[0])
    if led is None or led[1] is not None or not _is_ahead_of_drain(world, part, led[0]):
        return False
    if not all([_is_pair(world, caps, pair) and not is_empty(pair, part) for pair in value[1]]):
        return False
    kept = {pair: True for pair in value[1]}
    due = [led[0][:2]]
    for pair in value[1]:
        due.extend([behind for _, behind in free_moves(world, caps, pair)])
    return all([pair in kept for pair in due])


def _is_way_to_empty(world, part, caps, pair, way):
    """Whether any value is a way by the last step of which a part is empty."""
    if not isinstance(way, tuple):
        return False
    for what in way:
        found = [behind for told, behind in free_moves(world, caps, pair) if told == what]
        if is_empty(pair, part) or not found:
            return False
        pair = found[0]
    return is_empty(pair, part)


def _passes_holds(world, part, caps, value):
    """Whether any value tells a way to empty a part ahead of each drain of it."""
    if not _is_row_of(value, 2) or not _is_closed_tuple(world, caps, value[0], len(world.plan.deeds) + 1):
        return False
    asked = [standing[:2] for standing in value[0] if _is_ahead_of_drain(world, part, standing)]
    if not _is_row_of(value[1], len(asked)):
        return False
    return all([_is_way_to_empty(world, part, caps, pair, way) for pair, way in zip(asked, value[1])])


# Each takes the world, the harm or the number of the part, the caps, and the value.
HARM_SHEETS = {"story": _story_holds, "lots": _lots_hold, "never": _never_holds}
PART_SHEETS = {
    "shut in": _shut_in_holds, "comes out": _comes_out_holds, "for ever": _for_ever_holds, "passes": _passes_holds,
}


def sheet_holds(world, kind, question, value):
    """Whether any value is a paper of a kind for a question."""
    if not isinstance(kind, str) or not isinstance(question, tuple) or not question:
        return False
    caps = question[-1]
    if not is_caps(world, caps):
        return False
    if kind == "calm":
        return len(question) == 1 and _calm_holds(world, None, caps, value)
    if len(question) != 2:
        return False
    if kind in HARM_SHEETS and question[0] in harms_of(world.house):
        check = HARM_SHEETS[kind]
        return check(world, question[0], caps, value)
    if kind in PART_SHEETS and question[0] in world.house.parts:
        check = PART_SHEETS[kind]
        return check(world, world.house.parts.index(question[0]), caps, value)
    return False


def wrong_sheets(world, sheets):
    """The numbers of those of any values that are no sheets, or do not hold."""
    found = []
    for at, sheet in enumerate(sheets):
        if not _is_row_of(sheet, 3) or not sheet_holds(world, sheet[0], sheet[1], sheet[2]):
            found.append(at)
    return tuple(found)
