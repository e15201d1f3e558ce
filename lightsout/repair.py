"""Repairs: deeds that are put into a plan so that no harm comes."""

from itertools import combinations

from lightsout.basics import is_below, is_same, is_sequence, is_within, subsets
from lightsout.closed import closed_holds, closed_paper
from lightsout.ends import for_ever, shut_in
from lightsout.errors import InvalidPlan, InvalidSize, Refused
from lightsout.least import numbered
from lightsout.lots import any_number, led_along
from lightsout.plans import Plan, is_deed_of
from lightsout.trials import Trials

MOST_ENTRIES = 2
MOST_DEEDS = 4
MOST_POINTS = 6


def _is_pair(value):
    """Whether any value is a tuple of two things."""
    return isinstance(value, tuple) and len(value) == 2


def _ends_with_harm(world, value):
    """Whether any value is a story by lots that ends with a harm."""
    if not is_sequence(value):
        return False
    _, harm, at = led_along(world, any_number(world), value)
    return at is None and harm is not None


class Repair:
    """A world, and what comes of changes of its plan."""

    def __init__(self, world):
        self.world = world
        self._plan = world.plan.deeds
        self._trials = Trials(world)

    def _deeds_with(self, change):
        """The plan's deeds with those of a change."""
        deeds = []
        for at in range(len(self._plan) + 1):
            deeds.extend([told for place, told in change if place == at])
            deeds.extend(self._plan[at:at + 1])
        return tuple(deeds)

    def _checked_change(self, change):
        """The plan's deeds with those of any value that may be a change."""
        if not is_sequence(change):
            raise InvalidPlan(-1)
        last = 0
        for at, entry in enumerate(change):
            if not _is_pair(entry) or not is_below(entry[0], len(self._plan) + 1) or entry[0] < last:
                raise InvalidPlan(at)
            if not is_deed_of(self.world.house, entry[1]):
                raise InvalidPlan(at)
            last = entry[0]
        if len(change) > MOST_ENTRIES:
            raise InvalidSize("change")
        return self._deeds_with(change)

    def changed(self, change):
        """The plan with the deeds of a change put in."""
        return Plan(self._checked_change(change))

    def verdict(self, change):
        """Whether the plan with a change is calm; with a paper and the ends that can come, or a harm and stories."""
        deeds = self._checked_change(change)
        world = self.world.with_plan(deeds)
        if not self._trials.is_calm(deeds):
            harm, story = self._trials.story(deeds)
            return False, harm, story, numbered(world, story)
        parts = world.house.parts
        ends = [("for ever", part) for part in parts if for_ever(world, part) is not None]
        ends.extend([("shut in", part) for part in parts if shut_in(world, part) is not None])
        return True, closed_paper(world, any_number(world), None), tuple(ends)

    def _checked_deeds(self, deeds, most):
        """Any values as deeds to put in, and how many at most."""
        if not is_sequence(deeds):
            raise InvalidPlan(-1)
        for at, told in enumerate(deeds):
            if not is_deed_of(self.world.house, told) or told in deeds[:at]:
                raise InvalidPlan(at)
        if len(deeds) > MOST_DEEDS:
            raise InvalidSize("deeds")
        if not is_below(most, MOST_ENTRIES + 1):
            raise InvalidSize("most")
        return deeds

    def _changes(self, deeds, many):
        """All changes of so many entries, in order, of those that make one plan the first one alone."""
        places = list(range(len(self._plan) + 1))
        changes = [()]
        if many == 1:
            changes = [((place, told),) for place in places for told in deeds]
        if many == 2:
            changes = [((place, told), (other, more)) for place in places for other in places if place <= other
                       for told in deeds for more in deeds]
        found = {}
        for change in changes:
            found.setdefault(self._deeds_with(change), change)
        return list(found.values())

    def _sorted_out(self, deeds, most):
        """The calm changes of fewest entries, and all changes of fewer."""
        harmed = []
        for many in range(most + 1):
            changes = self._changes(deeds, many)
            calm = [change for change in changes if self._trials.is_calm(self._deeds_with(change))]
            if calm:
                return calm, harmed
            harmed.extend(changes)
        return [], harmed

    def least_changes(self, deeds, most):
        """The calm changes of some deeds with the fewest entries, of at most so many."""
        return tuple(self._sorted_out(self._checked_deeds(deeds, most), most)[0])

    def harmed_changes(self, deeds, most):
        """For each change with fewer entries than the least ones a harm and a story."""
        harmed = self._sorted_out(self._checked_deeds(deeds, most), most)[1]
        return tuple([(change, *self._trials.story(self._deeds_with(change))) for change in harmed])

    def spare(self):
        """For each deed of a calm plan None if the plan is calm without it, else a story."""
        if not self._trials.is_calm(self._plan):
            raise Refused(0)
        told = []
        for at in range(len(self._plan)):
            deeds = self._plan[:at] + self._plan[at + 1:]
            told.append(None if self._trials.is_calm(deeds) else self._trials.story(deeds)[1])
        return tuple(told)

    def _checked_points(self, points):
        """Any value as points, in their order."""
        if not is_sequence(points):
            raise InvalidPlan(-1)
        parts = self.world.house.parts
        for at, point in enumerate(points):
            if not _is_pair(point) or not is_below(point[0], len(self._plan) + 1) or point in points[:at]:
                raise InvalidPlan(at)
            if not isinstance(point[1], str) or point[1] not in parts:
                raise InvalidPlan(at)
        if len(points) > MOST_POINTS:
            raise InvalidSize("points")
        return [part for _, _, part in sorted([(place, parts.index(name), (place, name)) for place, name in points])]

    def _drained(self, lot):
        """The plan's deeds with drains at the points of a lot."""
        return self._deeds_with([(place, ("drain", part)) for place, part in lot])

    def _sorted_lots(self, points):
        """The least lots of points that make the plan calm, and the greatest ones that do not."""
        calm, harmed = [], []
        for many in range(len(points) + 1):
            for lot in combinations(points, many):
                if not any([is_within(one, lot) for one in calm]):
                    found = calm if self._trials.is_calm(self._drained(lot)) else harmed
                    found.append(lot)
        return calm, [lot for lot in harmed if not any([is_within(lot, other) for other in harmed if other != lot])]

    def drain_cuts(self, points):
        """The least lots of points that make the plan calm, the greatest that do not, and what all least ones have."""
        told = self._checked_points(points)
        calm, harmed = self._sorted_lots(told)
        least = []
        for lot in calm:
            world = self.world.with_plan(self._drained(lot))
            least.append((lot, closed_paper(world, any_number(world), None)))
        greatest = [(lot, self._trials.story(self._drained(lot))[1]) for lot in harmed]
        needful = [point for point in told if calm and all([point in lot for lot in calm])]
        return tuple(least), tuple(greatest), tuple(needful)

    def is_drain_cuts(self, points, least, greatest):
        """Whether any values are the least lots with papers and the greatest lots with stories."""
        told = self._checked_points(points)
        calm, harmed = _lots_of(told, least), _lots_of(told, greatest)
        if calm is None or harmed is None:
            return False
        keyed = [(len(lot), lot) for lot in calm]
        if keyed != sorted(keyed) or not _are_apart(calm) or not _are_apart(harmed):
            return False
        for lot in subsets(len(told)):
            if any([is_within(one, lot) for one in calm]) == any([is_within(lot, one) for one in harmed]):
                return False
        caps = any_number(self.world)
        for lot, paper in least:
            if not closed_holds(self.world.with_plan(self._drained(lot)), caps, paper, None):
                return False
        return all([_ends_with_harm(self.world.with_plan(self._drained(lot)), story) for lot, story in greatest])


def _numbers_of(points, lot):
    """The numbers of the points of any value that may be a lot of them in their order, None if it is none."""
    if not isinstance(lot, tuple):
        return None
    numbers = [at for one in lot for at, point in enumerate(points) if is_same(one, point)]
    is_lot = len(numbers) == len(lot) and all([one < other for one, other in zip(numbers, numbers[1:])])
    return tuple(numbers) if is_lot else None


def _lots_of(points, pairs):
    """The numbers of the points of each lot, for any value that may be a row of pairs; None if it is none."""
    if not is_sequence(pairs) or not all([_is_pair(pair) for pair in pairs]):
        return None
    lots = [_numbers_of(points, pair[0]) for pair in pairs]
    return None if None in lots else lots


def _are_apart(lots):
    """Whether no lot is within another one, or stands there twice."""
    return not any([is_within(one, other) for at, one in enumerate(lots) for to, other in enumerate(lots) if at != to])
