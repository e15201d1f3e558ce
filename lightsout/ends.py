"""Ends: who can never leave a part, and drains that can never be done."""

from lightsout.basics import labels_to_last, search
from lightsout.errors import InvalidLot, InvalidSize
from lightsout.guests import is_place
from lightsout.house import part_named
from lightsout.lots import MOST_STANDINGS, Lots, any_number, check_caps, is_standing
from lightsout.watched import free_moves, graph_from, is_empty, ranks_of, watched_moves, way_along


def _checked_caps(world, caps):
    """Any value as caps, if it is some; None stands for caps without counts."""
    told = any_number(world) if caps is None else caps
    check_caps(world, told)
    return told


def _moves_within(world, caps, part):
    """The function that gives the moves of a watched one as long as he is in a part."""

    def moves(triple):
        """The pairs of what is done and the triple behind it."""
        return watched_moves(world, caps, triple) if triple[2][2] == part else []

    return moves


def _moves_until_empty(world, caps, part):
    """The function that gives the moves of guests as long as somebody is in a part."""

    def moves(pair):
        """The pairs of what is done, and of house row and places behind it."""
        return [] if is_empty(pair, part) else free_moves(world, caps, pair)

    return moves


def out_of(world, standing, place, caps=None):
    """Some fewest whats by the last of which a watched one leaves his part, None if there are none."""
    told = _checked_caps(world, caps)
    if not is_standing(world, told, standing):
        raise InvalidLot(-1)
    row, places, _ = standing
    if not is_place(world.house, world.kinds, place) or place not in places or place[2] == -1:
        raise InvalidLot(0)
    part = place[2]
    met = _met((row, places, place), _moves_within(world, told, part), lambda triple: triple[2][2] != part)
    return None if met[-1][0][2][2] == part else labels_to_last(met)


def _met(first, moves, is_goal):
    """What `search` meets, if it is not too much."""
    met = search(first, moves, is_goal)
    if len(met) > MOST_STANDINGS:
        raise InvalidSize("standings")
    return met


def _stays(first, moves):
    """All that comes of a state by moves."""
    return tuple([entry[0] for entry in _met(first, moves, lambda state: False)])


def _unlike_in(places, part):
    """The unlike places in a part, in order."""
    return tuple({place: True for place in places if place[2] == part})


def _within(world, lots, part):
    """For each standing with the plan done and each unlike place in a part its number and the triple of both."""
    found = []
    for number, (row, places, hand) in enumerate(lots.standings):
        if hand == len(world.plan.deeds):
            found.extend([(number, (row, places, place)) for place in _unlike_in(places, part)])
    return found


def _ahead_of_drain(world, lots, part):
    """For each standing whose next deed is a drain of a part its number, and house row and places."""
    deeds = [*world.plan.deeds, None]
    asked = ("drain", world.house.parts[part])
    found = []
    for number, (row, places, hand) in enumerate(lots.standings):
        if deeds[hand] == asked:
            found.append((number, (row, places)))
    return found


def _ways(asked, moves, is_goal):
    """For each state asked, behind its number, some shortest way to a goal, None if there is none."""
    graph = graph_from([state for _, state in asked], moves)
    ranks = ranks_of(graph, is_goal)
    return [way_along(graph, ranks, state) if state in ranks else None for _, state in asked]


def _ways_out(world, caps, part):
    """The lots, what is asked of a part where the plan is done, and a way out for each of that or None."""
    lots = Lots(world, caps)
    asked = _within(world, lots, part)
    return lots, asked, _ways(asked, _moves_within(world, caps, part), lambda triple: triple[2][2] != part)


def _ways_to_empty(world, caps, part):
    """The lots, what is asked of a part ahead of its drains, and a way to empty it for each of that or None."""
    lots = Lots(world, caps)
    asked = _ahead_of_drain(world, lots, part)
    return lots, asked, _ways(asked, _moves_until_empty(world, caps, part), lambda pair: is_empty(pair, part))


def shut_in(world, part, caps=None):
    """Whats to where somebody can never leave a part, his place and the watch, None if all can leave."""
    told = _checked_caps(world, caps)
    at = part_named(world.house, part)
    lots, asked, ways = _ways_out(world, told, at)
    if None not in ways:
        return None
    number, triple = asked[ways.index(None)]
    return lots.way(number), triple[2], _stays(triple, _moves_within(world, told, at))


def outs(world, part, caps=None):
    """All standings, and some way out of a part for all who stand there when the plan is done; None if one has none."""
    told = _checked_caps(world, caps)
    lots, _, ways = _ways_out(world, told, part_named(world.house, part))
    return None if None in ways else (lots.standings, tuple(ways))


def for_ever(world, part, caps=None):
    """Whats to where a drain of a part can never be done, and all that comes of it, None if each can be done."""
    told = _checked_caps(world, caps)
    at = part_named(world.house, part)
    lots, asked, ways = _ways_to_empty(world, told, at)
    if None not in ways:
        return None
    number, pair = asked[ways.index(None)]
    return lots.way(number), _stays(pair, _moves_until_empty(world, told, at))


def drains(world, part, caps=None):
    """All standings, and some way to empty a part ahead of each drain of it; None if one has none."""
    told = _checked_caps(world, caps)
    lots, _, ways = _ways_to_empty(world, told, part_named(world.house, part))
    return None if None in ways else (lots.standings, tuple(ways))


def with_so_many(world, caps, part):
    """What `shut_in` and `for_ever` tell for so many guests."""
    if not isinstance(caps, tuple) or None in caps:
        raise InvalidSize("caps")
    return shut_in(world, part, caps), for_ever(world, part, caps)
