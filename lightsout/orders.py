"""Plans without a fixed order: which orders of deeds are safe, and which pairs that takes."""

from itertools import combinations

from lightsout.basics import is_below, is_integer, is_sequence, is_within
from lightsout.errors import InvalidOrder, InvalidSize
from lightsout.ground import Ground, check_met, labels_to_harm, walked
from lightsout.hands import covers, follows, order_of_cut
from lightsout.house import is_row
from lightsout.lots import HAND, any_number, is_lot, is_what

MOST_DEEDS = 6
MOST_DEEDS_OF_ALL = 4


def _checked_many(world, most):
    """How many deeds the plan has, if they are not too many."""
    many = len(world.plan.deeds)
    if many > most:
        raise InvalidSize("deeds")
    return many


def in_row(world, row):
    """The world with the deeds of its plan in a row."""
    many = _checked_many(world, MOST_DEEDS)
    if not is_sequence(row):
        raise InvalidOrder(0)
    for at, number in enumerate(row):
        if not is_below(number, many) or number in row[:at]:
            raise InvalidOrder(at)
    if len(row) < many:
        raise InvalidOrder(len(row))
    return world.with_plan([world.plan.deeds[number] for number in row])


class Course:
    """The deeds of a world's plan along an order.

    A state is a triple of numbers: the house row, the taken places, and the deeds that are done, as bits. A label is
    that of a guests' move, or the number of a deed.
    """

    def __init__(self, world, ground, pairs):
        self._plan = world.plan.deeds
        self._ground = ground
        self._ahead = [sum([1 << one for one, other in pairs if other == at]) for at in range(len(self._plan))]
        self.first_state = (*ground.begin, 0)

    def events(self, state):
        """The triples (label, state behind it, harm or None) of all events."""
        row, bits, done = state
        found = []
        for label, after, lot, harm in self._ground.moves(row, bits):
            found.append((label, (after, lot, done), harm))
        for number, told in enumerate(self._plan):
            if done >> number & 1 or self._ahead[number] & ~done:
                continue
            behind = self._ground.after_deed(row, bits, told)
            if behind is not None:
                found.append((number, (behind[0], behind[1], done | 1 << number), behind[2]))
        return found

    def walk(self, is_brief=False):
        """What is met along the order, and the harms."""
        return walked([self.first_state], self.events, is_brief)

    def is_safe(self):
        """Whether no harm is met; it ends at the first one."""
        return not self.walk(True)[1]

    def has_drain_left(self, done):
        """Whether a drain is still to be done."""
        return any([told[0] == "drain" and not done >> at & 1 for at, told in enumerate(self._plan)])

    def standing_of(self, state):
        """The standing of a state."""
        row, bits, done = state
        return self._ground.standing_of(row, bits, _numbers_of(done))

    def state_of(self, standing):
        """The state of what is known to be a standing."""
        row, places, done = standing
        return self._ground.row_number(row), self._ground.bits_of(places), _bits_of(done)

    def event_of(self, label):
        """The event that a label tells."""
        return ("hand", label) if is_integer(label) else self._ground.what_of(label)

    def label_of(self, event):
        """The label of what is known to have the form of an event."""
        return event[1] if event[0] == "hand" else (self._ground.place_number(event[1]), event[2])


def _numbers_of(bits):
    """The numbers that are the bits of a number."""
    return tuple([at for at in range(bits.bit_length()) if bits >> at & 1])


def _bits_of(numbers):
    """The number whose bits are these numbers."""
    return sum([1 << at for at in numbers])


def _course(world, pairs):
    """The deeds of a world along any value that may be an order."""
    many = _checked_many(world, MOST_DEEDS)
    return Course(world, Ground(world.house, world.kinds), follows(many, pairs))


def safe_order(world, pairs):
    """Whether no row of events along an order does a harm."""
    return not _course(world, pairs).walk()[1]


def order_paper(world, pairs):
    """All standings along a safe order, None for one that is not."""
    course = _course(world, pairs)
    met, harms = course.walk()
    return None if harms else tuple([course.standing_of(entry[0]) for entry in met])


def order_story(world, pairs):
    """As few events as can be along an order the last of which does a harm, and this one; None for a safe order."""
    course = _course(world, pairs)
    met, harms = course.walk()
    if not harms:
        return None
    harm = list(harms)[0]
    return tuple([course.event_of(label) for label in labels_to_harm(met, harms[harm])]), harm


def order_passes(world, pairs):
    """Whether some row of events along an order does all deeds without a harm."""
    every = (1 << len(world.plan.deeds)) - 1
    return every in [entry[0][2] for entry in _course(world, pairs).walk()[0]]


def _is_standing(world, value):
    """Whether any value has the form of a standing along an order."""
    if not isinstance(value, tuple) or len(value) != 3 or not is_row(world.house, value[0]):
        return False
    done = value[2]
    if not is_lot(world.house, world.kinds, any_number(world), value[1]) or not isinstance(done, tuple):
        return False
    many = len(world.plan.deeds)
    return all([is_below(at, many) for at in done]) and all([one < other for one, other in zip(done, done[1:])])


def order_paper_holds(world, pairs, value):
    """Whether any value is a paper that an order is safe."""
    course = _course(world, pairs)
    if not isinstance(value, tuple) or not all([_is_standing(world, standing) for standing in value]):
        return False
    states = {course.state_of(standing): True for standing in value}
    if len(states) < len(value) or course.first_state not in states:
        return False
    lots = {}
    for row, bits, done in states:
        lots.setdefault((row, done), []).append(bits)
    for state in states:
        for _, behind, harm in course.events(state):
            if harm is not None or behind not in states and not _is_served(course, lots, behind):
                return False
    return True


def _is_served(course, lots, state):
    """Whether a state, no drain being left, has no place more than one of the lots of its house row and deeds."""
    row, bits, done = state
    if course.has_drain_left(done):
        return False
    return any([bits & more == bits for more in lots.get((row, done), ())])


def _is_event(world, value):
    """Whether any value has the form of an event along an order."""
    if not isinstance(value, tuple) or not value:
        return False
    if value[0] == "hand":
        return len(value) == 2 and is_below(value[1], len(world.plan.deeds))
    return is_what(world, value) and value != HAND


def order_story_holds(world, pairs, value):
    """Whether any value is a pair of events along an order, the last of which alone does a harm, and this harm."""
    course = _course(world, pairs)
    if not isinstance(value, tuple) or len(value) != 2 or not isinstance(value[0], tuple):
        return False
    story, ended = value
    state, harm = course.first_state, None
    for event in story:
        if harm is not None or not _is_event(world, event):
            return False
        label = course.label_of(event)
        found = [told for told in course.events(state) if told[0] == label]
        if not found:
            return False
        _, state, harm = found[0]
    return harm is not None and isinstance(ended, tuple) and ended == harm


def needful_pairs(world, pairs):
    """Those covers of an order without which the other pairs that follow are not safe."""
    many = _checked_many(world, MOST_DEEDS)
    later = follows(many, pairs)
    ground = Ground(world.house, world.kinds)
    is_safe = not Course(world, ground, later).walk()[1]
    found = []
    for pair in covers(later):
        if not is_safe or not Course(world, ground, [other for other in later if other != pair]).is_safe():
            found.append(pair)
    return tuple(found)


def _stays(ground, starts):
    """All pairs (house row, places) that guests come to from some, and whether they do a harm."""

    def moves(state):
        """The guests' moves."""
        return [(label, (after, lot), harm) for label, after, lot, harm in ground.moves(state[0], state[1])]

    met, harms = walked(starts, moves)
    return [entry[0] for entry in met], len(harms) > 0


def _bad_rows(world):
    """All rows of all deeds that are bad; rows that begin alike are gone through together."""
    ground = Ground(world.house, world.kinds)
    deeds = world.plan.deeds
    left = [((), [ground.begin], 0, False)]
    bad = []
    while left:
        row, starts, many, is_bad = left.pop()
        met, is_harmed = _stays(ground, starts)
        many += len(met)
        check_met(many)
        if len(row) == len(deeds) and (is_bad or is_harmed):
            bad.append(row)
        for number, told in enumerate(deeds):
            if number not in row:
                done = [ground.after_deed(state[0], state[1], told) for state in met]
                behind = {(after, lot): True for after, lot, harm in [one for one in done if one] if harm is None}
                is_worse = any([one is not None and one[2] is not None for one in done])
                left.append(((*row, number), list(behind), many, is_bad or is_harmed or is_worse))
    return bad


def _turned_about(pairs, row):
    """Those of the pairs that a row has the other way about."""
    return tuple([pair for pair in pairs if row.index(pair[0]) > row.index(pair[1])])


def _least_of(lots):
    """Those of some lots, each once, within which no other one lies, in order."""
    unlike = sorted(set(lots))
    return tuple([lot for lot in unlike if not any([is_within(other, lot) for other in unlike if other != lot])])


def must_keep(world, pairs):
    """All least sets of pairs that follow which can't all be left out."""
    later = follows(_checked_many(world, MOST_DEEDS_OF_ALL), pairs)
    return _least_of([_turned_about(later, row) for row in _bad_rows(world)])


def _all_orders(many):
    """For all orders of so many deeds the pairs that follow."""
    found = [()]
    for one, other in combinations(range(many), 2):
        found = [(*pairs, *more) for pairs in found for more in ((), ((one, other),), ((other, one),))]
    return [tuple(sorted(pairs)) for pairs in found if _is_whole(pairs)]


def _is_whole(pairs):
    """Whether all that follows from pairs is among them, and no deed comes ahead of itself."""
    return all([(one, last) in pairs for one, mid in pairs for other, last in pairs if mid == other])


def least_orders(world):
    """The covers of all safe orders of which no lesser one is safe."""
    many = _checked_many(world, MOST_DEEDS_OF_ALL)
    bad = _bad_rows(world)
    safe = [pairs for pairs in _all_orders(many) if all([_turned_about(pairs, row) for row in bad])]
    return tuple(sorted([covers(pairs) for pairs in _least_of(safe)]))


def least_cuts(world):
    """All safe cuts of which no proper part is safe."""
    many = _checked_many(world, MOST_DEEDS)
    ground = Ground(world.house, world.kinds)
    numbers = list(range(1, many))
    Course(world, ground, follows(many, order_of_cut(many, numbers))).walk()
    found = []
    for size in range(max(1, many)):
        for cut in combinations(numbers, size):
            if any([is_within(lot, cut) for lot in found]):
                continue
            if Course(world, ground, follows(many, order_of_cut(many, cut))).is_safe():
                found.append(cut)
    return tuple(sorted(found))
