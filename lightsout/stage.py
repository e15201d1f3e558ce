"""The stage: stories by numbers, played word by word."""

from itertools import combinations

from lightsout.basics import is_below, is_integer, labels_to_last
from lightsout.errors import InvalidHouse, InvalidLot, InvalidSize, Refused
from lightsout.events import event_done, event_text, events_told, first_stage, guests_of, is_stage_standing
from lightsout.guests import placed
from lightsout.plans import World

MOST_EVENTS = 200
MOST_ALIKE = 400
MOST_CORE = 10


def _played(world, told):
    """The standings of a story of which it is known what each event tells, and the end by a harm or None."""
    standings = [first_stage(world)]
    for at, one in enumerate(told):
        done = event_done(world, standings[-1], one)
        if done is None:
            raise Refused(at)
        if done[1] is not None:
            if at + 1 < len(told):
                raise Refused(at + 1)
            return tuple(standings), (at, done[1])
        standings.append(done[0])
    return tuple(standings), None


def _other_order(world, standing, pair, at):
    """What comes first where the second of two events, at `at` and behind it, is done ahead of the first."""
    if pair[0][0] == "come" and pair[1][0] == "come":
        return "refused", at
    for more, told in enumerate(pair[::-1]):
        done = event_done(world, standing, told)
        if done is None:
            return "refused", at + more
        if done[1] is not None:
            return "harm", done[1]
        standing = done[0]
    return "other", standing


def _exchanged(row, at):
    """A row with the things at a number and behind it exchanged."""
    return (*row[:at], row[at + 1], row[at], *row[at + 2:])


def _exchange(world, told, standings, at):
    """What the other order of two events that do no harm comes to: ("alike", what the events tell then), or else."""
    came = _other_order(world, standings[at], (told[at], told[at + 1]), at)
    if came == ("other", standings[at + 2]):
        return "alike", _exchanged(told, at)
    return came


def _texts(world, told):
    """The story that tells these events."""
    return tuple([event_text(world, one) for one in told])


def _alike_stories(world, told):
    """What is met by exchanges in breadth: (what the events tell, number of the entry ahead, number exchanged)."""
    met = [(tuple(told), -1, None)]
    seen = {met[0][0]: True}
    at = 0
    while at < len(met):
        standings = _played(world, met[at][0])[0]
        for number in range(len(standings) - 2):
            word, found = _exchange(world, met[at][0], standings, number)
            if word != "alike" or found in seen:
                continue
            if len(met) == MOST_ALIKE:
                raise InvalidSize("stories")
            seen[found] = True
            met.append((found, at, number))
        at += 1
    return met


def _renumbered(told, guests, numbers):
    """What some events tell, by their numbers in a story, guests numbered anew.

    It is None for the step of a guest whose coming is not among them.
    """
    anew = {}
    rows = []
    for at in numbers:
        word, number = told[at]
        if word == "come":
            anew[guests[at]] = len(anew)
        if word == "step":
            rows.append((word, anew[number]) if number in anew else None)
        else:
            rows.append((word, number))
    return rows


def _end_of(world, rows):
    """How a row of events ends: the number of the last one that is reached, and its word, ahead of all others."""
    standing = first_stage(world)
    for at, one in enumerate(rows):
        done = None if one is None else event_done(world, standing, one)
        if done is None:
            return at, "refused", None
        if done[1] is not None:
            return at, "harm", done[1]
        standing = done[0]
    return len(rows), "calm", None


def _left_without(told, guests, at):
    """The numbers of the events that are left without one, and, if it is a coming, without this guest's steps."""
    left = [number for number in range(len(told)) if number != at]
    if told[at][0] != "come":
        return left
    return [number for number in left if guests[number] != guests[at]]


def _need(world, told, at, harm):
    """What the others come to without an event of a story that ends by a harm."""
    guests = guests_of(told)
    left = _left_without(told, guests, at)
    number, word, other = _end_of(world, _renumbered(told, guests, left))
    if word == "refused":
        return word, left[number]
    if word == "calm":
        return (word,)
    return None if other == harm else (word, other)


class Stage:
    """A world in which stories are played."""

    def __init__(self, world):
        if not isinstance(world, World):
            raise InvalidHouse(-1)
        self.world = world

    def first(self):
        """The stage standing in which all stories begin."""
        return first_stage(self.world)

    def bare(self, standing):
        """A stage standing with its places in order."""
        row, places, hand = standing
        return row, placed(places), hand

    def _told(self, story):
        """What the events of any value tell that may be a story."""
        return events_told(self.world, story, MOST_EVENTS)

    def may(self, standing):
        """All events that can be done, each with its harm or None."""
        if not is_stage_standing(self.world, standing):
            raise InvalidLot(-1)
        events = [("come", number) for number in range(len(self.world.kinds))]
        events.extend([("step", guest) for guest in range(len(standing[1]))])
        found = []
        for told in [*events, ("hand", 0)]:
            done = event_done(self.world, standing, told)
            if done is not None:
                found.append((event_text(self.world, told), done[1]))
        return tuple(found)

    def play(self, story):
        """The standings of a story, and the number and the harm of its last event, or None."""
        return _played(self.world, self._told(story))

    def twin(self, story, guest):
        """The story with one more guest who does right behind a guest what he does, but a harm."""
        told = self._told(story)
        end = _played(self.world, told)[1]
        guests = guests_of(told)
        if not is_below(guest, len([word for word, _ in told if word == "come"])):
            raise Refused(len(told))
        rows = []
        for at, (word, number) in enumerate(told):
            rows.append((word, number + 1) if word == "step" and number > guest else (word, number))
            if guests[at] == guest and (end is None or end[0] != at):
                rows.append((word, number if word == "come" else guest + 1))
        return _texts(self.world, rows)

    def exchange(self, story, at):
        """What the other order of two neighbours comes to."""
        told = self._told(story)
        if not is_integer(at) or not 0 <= at < len(told) - 1:
            raise InvalidSize("at")
        standings, end = _played(self.world, told)
        if end is not None and end[0] == at + 1:
            raise Refused(at)
        word, found = _exchange(self.world, told, standings, at)
        return word, _texts(self.world, found) if word == "alike" else found

    def _met(self, story):
        """What is met by exchanges from any value that may be a story, and the stories, in the same order."""
        told = self._told(story)
        _played(self.world, told)
        met = _alike_stories(self.world, told)
        return met, [_texts(self.world, entry[0]) for entry in met]

    def alike(self, story):
        """All stories that exchanges lead to, in order."""
        return tuple(sorted(self._met(story)[1]))

    def least_alike(self, story):
        """The first of the stories that exchanges lead to, and the numbers at which they lead there."""
        met, stories = self._met(story)
        least = min(stories)
        return least, labels_to_last(met[:stories.index(least) + 1])

    def core(self, story):
        """The fewest events that end by the story's harm, their numbers ahead."""
        told = self._told(story)
        end = _played(self.world, told)[1]
        if len(told) > MOST_CORE:
            raise InvalidSize("events")
        if end is None:
            return None
        guests = guests_of(told)
        for many in range(1, len(told) + 1):
            for numbers in combinations(range(len(told)), many):
                rows = _renumbered(told, guests, numbers)
                if _end_of(self.world, rows) == (many - 1, "harm", end[1]):
                    return numbers, _texts(self.world, rows)
        return None

    def needs(self, story):
        """For each event of a story with a harm what the others come to without it."""
        told = self._told(story)
        end = _played(self.world, told)[1]
        if end is None:
            return None
        return tuple([_need(self.world, told, at, end[1]) for at in range(len(told))])
