"""How many guests a harm needs: stories by lots made stories by numbers."""

from lightsout.basics import is_sequence
from lightsout.errors import InvalidStory, Refused
from lightsout.events import event_done, event_text, first_stage
from lightsout.guests import first_place, step
from lightsout.lots import HAND, Lots, any_number, checked_harm, first_standing, is_what, moves_from
from lightsout.plans import deed


def _check_whats(world, story):
    """InvalidStory for any value that is no row of whats of a world."""
    if not is_sequence(story):
        raise InvalidStory(-1)
    for at, what in enumerate(story):
        if not is_what(world, what):
            raise InvalidStory(at)


def _trail(world, story):
    """The standings ahead of each what and behind the last one, and the harm that the last one does, or None."""
    caps = any_number(world)
    standings = [first_standing(world, caps)]
    harm = None
    for at, what in enumerate(story):
        told = {move[0]: move for move in moves_from(world, caps, standings[-1])}
        if harm is not None or what not in told:
            raise Refused(at)
        _, behind, harm = told[what]
        standings.append(behind)
    return standings, harm


def _doer(world, standing, what, harm):
    """The place of the one who does a harm by the last what."""
    if what != HAND:
        return what[1]
    part = world.house.number_of_part(harm[1])
    return [place for place in standing[1] if place[2] == part][0]


def _needs_ahead_of_hand(world, standing, needs):
    """How many are needed at each place ahead of a deed, of those behind it: an off can make two places one."""
    row, places, hand = standing
    behind = deed(world.house, row, places, world.plan.deeds[hand])[1]
    ahead = {}
    met = {}
    for place, to in zip(places, behind):
        if to not in met:
            met[to] = True
            ahead[place] = needs.get(to, 0)
    return ahead


def _needs_ahead_of_step(world, standing, row, place, needs):
    """How many are needed at each place ahead of a step, and how many do it; `row` is the house row behind it."""
    to = step(world.house, world.kinds, standing[0], place)[1]
    many = 0 if row == standing[0] else 1
    ahead = {one: needs[one] for one in needs}
    # Where nobody stood those who are needed are those who come; at a taken place they stand there already.
    if to not in standing[1]:
        many = max(many, needs.get(to, 0))
        ahead[to] = 0
    ahead[place] = ahead.get(place, 0) + many
    return ahead, many


def _needs_of(world, story):
    """How many guests come to each first place, and how many do each what, worked out backwards."""
    standings, harm = _trail(world, story)
    last = len(story)
    movers = []
    needs = {place: 1 for place in standings[-1][1]}
    if harm is not None:
        last -= 1
        movers.append(1)
        needs = {_doer(world, standings[last], story[last], harm): 1}
    for at in range(last - 1, -1, -1):
        many = 0
        if story[at] == HAND:
            needs = _needs_ahead_of_hand(world, standings[at], needs)
        else:
            needs, many = _needs_ahead_of_step(world, standings[at], standings[at + 1][0], story[at][1], needs)
        movers.append(many)
    comes = [needs.get(first_place(number), 0) for number in range(len(world.kinds))]
    return tuple(comes), movers[::-1]


def _comings(comes):
    """What the comings of so many guests of each kind tell, by kinds."""
    told = []
    for number, many in enumerate(comes):
        told.extend([("come", number)] * many)
    return told


def _by_numbers(world, comes, story, movers):
    """The story of [10] in which so many of each kind come, and as many as `movers` tells do each what.

    None tells that all do who stand at the place.
    """
    told = _comings(comes)
    standing = first_stage(world)
    for one in told:
        standing = event_done(world, standing, one)[0]
    for what, many in zip(story, movers):
        events = [("hand", 0)]
        if what != HAND:
            events = [("step", guest) for guest, place in enumerate(standing[1]) if place == what[1]][:many]
        for one in events:
            told.append(one)
            standing = event_done(world, standing, one)[0]
    return tuple([event_text(world, one) for one in told])


def numbered(world, story):
    """The story by numbers that a story by lots without counts makes."""
    _check_whats(world, story)
    comes, movers = _needs_of(world, story)
    told = [None if what != HAND and what[2] else many for what, many in zip(story, movers)]
    return _by_numbers(world, comes, story, told)


def most_needed(world, story):
    """How many guests come in the story by numbers that a story by lots makes."""
    _check_whats(world, story)
    return sum(_needs_of(world, story)[0])


def _caps_of_sum(kinds, many):
    """All caps of so many guests together, in order."""
    if kinds == 0:
        return [()] if many == 0 else []
    return [(one, *more) for one in range(many + 1) for more in _caps_of_sum(kinds - 1, many - one)]


def least_guests(world, harm):
    """The least caps with which a harm comes, and a story of just so many guests that ends with it."""
    told = checked_harm(world.house, harm)
    story = Lots(world, any_number(world), is_short=True).story(told)
    if story is None:
        return None
    for many in range(most_needed(world, story) + 1):
        for caps in _caps_of_sum(len(world.kinds), many):
            found = Lots(world, caps).story(told)
            if found is not None:
                return caps, _by_numbers(world, caps, found, [1] * len(found))
    return None
