"""How many guests a story by lots takes, and the story by numbers that they make of it."""

from lightsout.events import event_done, event_text, first_stage
from lightsout.guests import first_place, step
from lightsout.lots import HAND
from lightsout.plans import deed
from lightsout.watched import WATCHED


def _needs_ahead_of_hand(world, standing, needs):
    """How many are needed at each place ahead of a deed, of those behind it: an off can make two places one."""
    row, places, hand = standing
    behind = deed(world.house, row, places, world.plan.deeds[hand])[1]
    ahead = {}
    met = {}
    for place, to in zip(places, behind):
        if to not in met:
            met[to] = True
            ahead[place] = needs.get(to, 0)
    return ahead


def _needs_ahead_of_step(world, standing, row, place, needs):
    """How many are needed at each place ahead of a step, and how many do it; `row` is the house row behind it."""
    to = step(world.house, world.kinds, standing[0], place)[1]
    many = 0 if row == standing[0] else 1
    ahead = {one: needs[one] for one in needs}
    # Where nobody stood those who are needed are those who come; at a taken place they stand there already.
    if to not in standing[1]:
        many = max(many, needs.get(to, 0))
        ahead[to] = 0
    ahead[place] = ahead.get(place, 0) + many
    return ahead, many


def needs_of(world, standings, whats, needs):
    """How many guests come to each first place, and how many do each what, worked out backwards.

    `standings` are those ahead of the whats and behind the last one; `needs` tells how many are needed at the end. A
    watched one's own steps need nobody else.
    """
    movers = []
    for at in range(len(whats) - 1, -1, -1):
        many = 0
        if whats[at] == HAND:
            needs = _needs_ahead_of_hand(world, standings[at], needs)
        elif whats[at] != WATCHED:
            needs, many = _needs_ahead_of_step(world, standings[at], standings[at + 1][0], whats[at][1], needs)
        movers.append(many)
    comes = [needs.get(first_place(number), 0) for number in range(len(world.kinds))]
    return tuple(comes), movers[::-1]


def _comings(comes):
    """What the comings of so many guests of each kind tell, by kinds."""
    told = []
    for number, many in enumerate(comes):
        told.extend([("come", number)] * many)
    return told


def _events_of(what, places, many, watched):
    """The events by which a what is done where the guests stand at these places.

    So many of those at the place step, None tells that all do; the first `watched` guests do their own steps alone.
    """
    if what == HAND:
        return [("hand", 0)]
    if what == WATCHED:
        return [("step", 0)]
    guests = [guest for guest, place in enumerate(places) if place == what[1] and guest >= watched]
    return [("step", guest) for guest in guests[:many]]


def by_numbers(world, comes, whats, movers, watched=()):
    """The story of [10] in which so many of each kind come, and as many as `movers` tells do each what.

    None tells that all do who stand at the place. `watched` has the number of the kind of a watched one, who comes
    ahead of all others, or nothing.
    """
    told = [("come", number) for number in watched] + _comings(comes)
    standing = first_stage(world)
    for one in told:
        standing = event_done(world, standing, one)[0]
    for what, many in zip(whats, movers):
        events = _events_of(what, standing[1], many, len(watched))
        for one in events:
            told.append(one)
            standing = event_done(world, standing, one)[0]
    return tuple([event_text(world, one) for one in told])


def goers(whats, movers):
    """How many do each what, None where all go who stand at a place."""
    return [None if what not in (HAND, WATCHED) and what[2] else many for what, many in zip(whats, movers)]
