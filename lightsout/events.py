"""Stories by numbers: the events of a world, and what each does to a stage standing."""

from lightsout.basics import is_below, is_sequence, replaced
from lightsout.errors import InvalidStory
from lightsout.guests import first_place, is_place, step
from lightsout.house import first_row, is_row
from lightsout.plans import hand_deed

MOST_FIGURES = 3


def _is_guest_number(word):
    """Whether a word is a guest's number as stories write it."""
    if not 1 <= len(word) <= MOST_FIGURES or not all(["0" <= sign <= "9" for sign in word]):
        return False
    return word == "0" or word[0] != "0"


def event_told(world, value):
    """What any value tells as an event: its word and a number; None if it is none of this world."""
    if not isinstance(value, str):
        return None
    if value == "hand":
        return "hand", 0
    word, _, rest = value.partition(" ")
    names = [kind.name for kind in world.kinds]
    if word == "come" and rest in names:
        return "come", names.index(rest)
    if word == "step" and _is_guest_number(rest):
        return "step", int(rest)
    return None


def events_told(world, story, most):
    """What each event of any value tells that may be a story, of at most so many events."""
    if not is_sequence(story) or len(story) > most:
        raise InvalidStory(-1)
    told = [event_told(world, event) for event in story]
    if None in told:
        raise InvalidStory(told.index(None))
    return told


def first_stage(world):
    """The stage standing in which all stories begin."""
    return first_row(world.house), (), 0


def is_stage_standing(world, value):
    """Whether any value has the form of a stage standing."""
    if not isinstance(value, tuple) or len(value) != 3 or not is_row(world.house, value[0]):
        return False
    if not isinstance(value[1], tuple) or not is_below(value[2], len(world.plan.deeds) + 1):
        return False
    return all([is_place(world.house, world.kinds, place) for place in value[1]])


def _step_done(world, standing, guest):
    """The standing behind a guest's step, and its harm."""
    row, places, hand = standing
    if guest >= len(places):
        return None
    told = step(world.house, world.kinds, row, places[guest])
    if told is None:
        return None
    after, to, harm = told
    return (standing, harm) if harm is not None else ((after, replaced(places, guest, to), hand), None)


def _hand_done(world, standing):
    """The standing behind the next deed, and its harm."""
    row, places, hand = standing
    told = hand_deed(world, row, places, hand)
    if told is None:
        return None
    after, behind, harm = told
    return (standing, harm) if harm is not None else ((after, behind, hand + 1), None)


def event_done(world, standing, told):
    """The stage standing behind an event, and its harm or None; None if it can't be done."""
    word, number = told
    if word == "come":
        row, places, hand = standing
        return (row, (*places, first_place(number)), hand), None
    if word == "step":
        return _step_done(world, standing, number)
    return _hand_done(world, standing)


def guests_of(told):
    """For each event the guest who comes or steps by it, numbered as they come; None for the hand."""
    guests = []
    came = 0
    for word, number in told:
        if word == "come":
            guests.append(came)
            came += 1
        else:
            guests.append(number if word == "step" else None)
    return guests


def event_text(world, told):
    """The text of an event."""
    word, number = told
    if word == "come":
        return "come " + world.kinds[number].name
    return "hand" if word == "hand" else "step " + str(number)
