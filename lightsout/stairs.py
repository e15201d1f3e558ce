"""Stairs: the least numbers of guests with which a harm comes, and the greatest caps under which it never does."""

from lightsout.basics import is_number, is_same
from lightsout.closed import closed_holds, closed_paper
from lightsout.events import event_done, event_told, first_stage
from lightsout.least import caps_of_sum, counted_story
from lightsout.lots import checked_harm


# Some vectors of as many guests as a least one may come to more standings than it does.
MOST_COUNTED = 100000


class Stairs:
    """The least vectors with a tale for each, and the greatest caps not above one with a paper for each."""

    def __init__(self, vectors, tales, corners, papers):
        self.vectors = vectors
        self.tales = tales
        self.corners = corners
        self.papers = papers

    def is_like(self, other):
        """Whether any value is such a thing with equal attributes."""
        if not isinstance(other, Stairs):
            return False
        own = (self.vectors, self.tales, self.corners, self.papers)
        return is_same(own, (other.vectors, other.tales, other.corners, other.papers))


def is_above(vector, other):
    """Whether a vector has no less of any kind than another one."""
    return all([one >= less for one, less in zip(vector, other)])


def is_below(vector, caps):
    """Whether a vector, or other caps, keep to caps."""
    return all([cap is None or one is not None and one <= cap for one, cap in zip(vector, caps)])


def _caps_key(caps):
    """What caps are ordered by: None is greater than each number."""
    return tuple([(1, 0) if cap is None else (0, cap) for cap in caps])


def _lessened(caps, vector):
    """The caps that let one less of some kind come than a vector, and as many as before of the others."""
    return [caps[:at] + (one - 1,) + caps[at + 1:] for at, one in enumerate(vector) if one > 0]


def _corners_of(kinds, vectors):
    """The greatest caps of so many kinds that no vector is below, in order."""
    corners = [(None,) * kinds]
    for vector in vectors:
        cut = [caps for caps in corners if not is_below(vector, caps)]
        for caps in corners:
            if is_below(vector, caps):
                cut.extend(_lessened(caps, vector))
        unlike = list({caps: True for caps in cut})
        corners = [one for one in unlike if not any([is_below(one, other) for other in unlike if other != one])]
    keyed = {_caps_key(caps): caps for caps in corners}
    return [keyed[key] for key in sorted(keyed)]


def _new_vectors(world, harm, many, vectors, open_caps):
    """The vectors of so many guests with which a harm comes, above none that is known, each with its tale."""
    found = {}
    for vector in caps_of_sum(len(world.kinds), many):
        is_open = any([is_below(vector, caps) for caps in open_caps])
        if is_open and not any([is_above(vector, other) for other in vectors]):
            tale = counted_story(world, vector, harm, MOST_COUNTED)
            if tale is not None:
                found[vector] = tale
    return found


def least_numbers(world, harm):
    """All least vectors with which a harm comes, and the corners under which it never does."""
    told = checked_harm(world.house, harm)
    tales = {}
    papers = {}
    many = 0
    while True:
        corners = _corners_of(len(world.kinds), sorted(tales))
        for caps in corners:
            if caps not in papers:
                papers[caps] = closed_paper(world, caps, told)
        open_caps = [caps for caps in corners if papers[caps] is None]
        if not open_caps:
            break
        found = _new_vectors(world, told, many, sorted(tales), open_caps)
        tales.update(found)
        many += 1
    vectors = sorted(tales)
    return Stairs(
        tuple(vectors), tuple([tales[vector] for vector in vectors]),
        tuple(corners), tuple([papers[caps] for caps in corners]),
    )


def _tale_holds(world, vector, harm, value):
    """Whether any value is a story that begins with the coming of just so many guests, and ends by a harm."""
    if not isinstance(value, tuple):
        return False
    comings = [("come", number) for number, many in enumerate(vector) for _ in range(many)]
    told = [event_told(world, event) for event in value]
    if told[:len(comings)] != comings or "come" in [one[0] for one in told[len(comings):] if one is not None]:
        return False
    standing, ended = first_stage(world), None
    for one in told:
        done = None if one is None or ended is not None else event_done(world, standing, one)
        if done is None:
            return False
        standing, ended = done
    return ended == harm


def _are_vectors(value, kinds):
    """Whether any value is an ascending tuple of vectors of so many kinds, none of them above another one."""
    if not isinstance(value, tuple) or not all([isinstance(vector, tuple) for vector in value]):
        return False
    if not all([len(vector) == kinds and all([is_number(one) for one in vector]) for vector in value]):
        return False
    if any([is_above(one, other) for at, one in enumerate(value) for more, other in enumerate(value) if at != more]):
        return False
    return all([one < other for one, other in zip(value, value[1:])])


def check_stairs(world, harm, value):
    """Whether any value tells all least vectors with which a harm comes, and all corners."""
    told = checked_harm(world.house, harm)
    if not isinstance(value, Stairs) or not _are_vectors(value.vectors, len(world.kinds)):
        return False
    if not isinstance(value.tales, tuple) or not isinstance(value.papers, tuple):
        return False
    corners = tuple(_corners_of(len(world.kinds), value.vectors))
    if not is_same(value.corners, corners) or len(value.papers) != len(corners):
        return False
    if len(value.tales) != len(value.vectors):
        return False
    if not all([_tale_holds(world, vector, told, tale) for vector, tale in zip(value.vectors, value.tales)]):
        return False
    return all([closed_holds(world, caps, paper, told) for caps, paper in zip(corners, value.papers)])
