"""Closed papers: that a harm never comes."""

from lightsout.basics import is_sequence
from lightsout.lots import ASKING, Lots, Shades, check_caps, checked_harm, first_standing, free_from, moves_from
from lightsout.lots import is_standing


def _harm_asked(house, harm):
    """The harm of any value that is one, None for None."""
    return None if harm is None else checked_harm(house, harm)


def is_closed(world, caps, standings, free):
    """Whether each move of one of some standings leads to one of them, or does a harm.

    Where so many deeds are done, a move may also lead to a standing under one of them.
    """
    shades = Shades(caps)
    kept = {}
    for standing in standings:
        row, places, hand = standing
        kept[standing] = True
        shades.put(row, places, hand)
    for standing in standings:
        for _, (row, places, hand), harm in moves_from(world, caps, standing):
            if harm is not None or (row, places, hand) in kept:
                continue
            if hand < free or not shades.has_greater(row, places, hand):
                return False
    return True


def are_standings(world, caps, value):
    """Whether any value is a sequence of unlike standings, the first one among them."""
    if not is_sequence(value) or not all([is_standing(world, caps, standing) for standing in value]):
        return False
    return first_standing(world, caps) in value and len(set(value)) == len(value)


def does_harm(world, caps, standings, harm):
    """Whether some move of some standings does a harm; None asks for all."""
    for standing in standings:
        for _, _, done in moves_from(world, caps, standing):
            if done is not None and harm in (None, done):
                return True
    return False


def closed_paper(world, caps, harm):
    """Some closed paper against a harm, or all for None; None if it comes."""
    check_caps(world, caps)
    told = _harm_asked(world.house, harm)
    lots = Lots(world, caps, is_short=True)
    if told in lots.harms or told is None and not lots.calm:
        return None
    return lots.standings


def closed_holds(world, caps, paper, harm):
    """Whether any value is a closed paper."""
    check_caps(world, caps)
    told = _harm_asked(world.house, harm)
    if not are_standings(world, caps, paper) or does_harm(world, caps, paper, told):
        return False
    return is_closed(world, caps, paper, free_from(world, ASKING))
