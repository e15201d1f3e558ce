"""How many guests a harm needs: stories by lots made stories by numbers."""

from lightsout.basics import is_sequence
from lightsout.crowds import by_numbers, goers, needs_of
from lightsout.errors import InvalidStory, Refused
from lightsout.lots import HAND, MOST_STANDINGS, Lots, any_number, checked_harm, is_what, led_along


def _check_whats(world, story):
    """InvalidStory for any value that is no row of whats of a world."""
    if not is_sequence(story):
        raise InvalidStory(-1)
    for at, what in enumerate(story):
        if not is_what(world, what):
            raise InvalidStory(at)


def _doer(world, standing, what, harm):
    """The place of the one who does a harm by the last what."""
    if what != HAND:
        return what[1]
    part = world.house.number_of_part(harm[1])
    return [place for place in standing[1] if place[2] == part][0]


def _needs_of(world, story):
    """How many guests come to each first place, and how many do each what."""
    standings, harm, at = led_along(world, any_number(world), story)
    if at is not None:
        raise Refused(at)
    if harm is None:
        return needs_of(world, standings, story, {place: 1 for place in standings[-1][1]})
    last = len(story) - 1
    doer = _doer(world, standings[last], story[last], harm)
    comes, movers = needs_of(world, standings[:last + 1], story[:last], {doer: 1})
    return comes, [*movers, 1]


def numbered(world, story):
    """The story by numbers that a story by lots without counts makes."""
    _check_whats(world, story)
    comes, movers = _needs_of(world, story)
    return by_numbers(world, comes, story, goers(story, movers))


def most_needed(world, story):
    """How many guests come in the story by numbers that a story by lots makes."""
    _check_whats(world, story)
    return sum(_needs_of(world, story)[0])


def caps_of_sum(kinds, many):
    """All caps of so many guests together, in order."""
    if kinds == 0:
        return [()] if many == 0 else []
    return [(one, *more) for one in range(many + 1) for more in caps_of_sum(kinds - 1, many - one)]


def counted_story(world, caps, harm, bound):
    """Some story by numbers in which just so many guests come, and that ends with a harm; None if there is none."""
    found = Lots(world, caps, bound).story(harm)
    return None if found is None else by_numbers(world, caps, found, [1] * len(found))


def least_guests(world, harm):
    """The least caps with which a harm comes, and a story of just so many guests that ends with it."""
    told = checked_harm(world.house, harm)
    story = Lots(world, any_number(world), is_short=True).story(told)
    if story is None:
        return None
    for many in range(most_needed(world, story) + 1):
        for caps in caps_of_sum(len(world.kinds), many):
            found = counted_story(world, caps, told, MOST_STANDINGS)
            if found is not None:
                return caps, found
    return None
