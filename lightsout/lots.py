"""Standings by lots: what may happen, for any number of guests."""

from lightsout.basics import is_below, is_number, is_sequence
from lightsout.errors import InvalidLot, InvalidSize, NoName
from lightsout.guests import first_place, is_place, place_key, placed, step
from lightsout.house import first_row, is_row
from lightsout.plans import hand_deed

MOST_STANDINGS = 5000
PART_HARMS = ("inside", "dark")
CELL_HARMS = ("stale", "lost")
HAND = ("hand",)
# The deeds that ask whether somebody is in a part.
ASKING = ("drain", "off")


def is_caps(world, value):
    """Whether any value is caps of a world."""
    if not isinstance(value, tuple) or len(value) != len(world.kinds):
        return False
    return all([cap is None or is_number(cap) for cap in value])


def check_caps(world, caps):
    """InvalidSize for any value that is no caps of a world."""
    if not is_caps(world, caps):
        raise InvalidSize("caps")


def any_number(world):
    """The caps by which any number of guests of each kind may come."""
    return (None,) * len(world.kinds)


def harms_of(house):
    """All harms that events can do in a house."""
    parts = [(word, name) for word in PART_HARMS for name in house.parts]
    return parts + [(word, cell[0]) for word in CELL_HARMS for cell in house.cells]


def checked_harm(house, harm):
    """Any value as a pair, if it is a harm that events can do in a house."""
    if not is_sequence(harm) or len(harm) != 2 or not all([isinstance(word, str) for word in harm]):
        raise InvalidSize("harm")
    if harm[0] not in PART_HARMS + CELL_HARMS:
        raise InvalidSize("harm")
    if tuple(harm) not in harms_of(house):
        raise NoName(harm[1])
    return tuple(harm)


def is_lot(house, kinds, caps, value):
    """Whether any value has the form of the places of a standing of these caps."""
    if not isinstance(value, tuple) or not all([is_place(house, kinds, place) for place in value]):
        return False
    keys = [place_key(place) for place in value]
    if keys != sorted(keys):
        return False
    return all([_is_share(number, cap, value) for number, cap in enumerate(caps)])


def _is_share(number, cap, places):
    """Whether the guests of one kind stand as its cap asks."""
    own = [place for place in places if place[0] == number]
    if cap is not None:
        return len(own) == cap
    return first_place(number) in own and len(set(own)) == len(own)


def is_standing(world, caps, value):
    """Whether any value has the form of a standing of these caps."""
    if not isinstance(value, tuple) or len(value) != 3 or not is_row(world.house, value[0]):
        return False
    return is_lot(world.house, world.kinds, caps, value[1]) and is_below(value[2], len(world.plan.deeds) + 1)


def first_standing(world, caps):
    """The standing in which nothing is done."""
    check_caps(world, caps)
    places = []
    for number, cap in enumerate(caps):
        places.extend([first_place(number)] * (1 if cap is None else cap))
    return first_row(world.house), tuple(places), 0


def _number_for(places, place):
    """Where in a row of places one belongs, behind all that are not greater."""
    key = place_key(place)
    low, high = 0, len(places)
    while low < high:
        mid = (low + high) // 2
        if key < place_key(places[mid]):
            high = mid
        else:
            low = mid + 1
    return low


def come_to(caps, places, place):
    """The places when one more guest stands at one."""
    at = _number_for(places, place)
    if caps[place[0]] is None and at > 0 and places[at - 1] == place:
        return places
    return places[:at] + (place,) + places[at:]


def gone_from(places, place):
    """The places when one guest of a counted kind, or all of another, have left one."""
    at = places.index(place)
    return places[:at] + places[at + 1:]


def _place_moves(caps, row, places, place, told):
    """The moves of those at a place, of what `step` has told of it."""
    after, to, harm = told
    is_counted = caps[place[0]] is not None
    if harm is not None:
        return [(("step", place, is_counted), row, places, harm)]
    found = []
    if not is_counted:
        found.append((False, come_to(caps, places, to)))
    if is_counted or place != first_place(place[0]):
        found.append((True, come_to(caps, gone_from(places, place), to)))
    return [(("step", place, is_left), after, lot, None) for is_left, lot in found if after != row or lot != places]


def guest_moves(house, kinds, caps, row, places):
    """All moves of guests: what, house row, places, and the harm or None."""
    found = []
    for at, place in enumerate(places):
        if at > 0 and places[at - 1] == place:
            continue
        told = step(house, kinds, row, place)
        if told is not None:
            found.extend(_place_moves(caps, row, places, place, told))
    return tuple(found)


def _lot_of(caps, places):
    """The places in order, those of kinds without a count once."""
    found = []
    for place in placed(places):
        if caps[place[0]] is not None or not found or found[-1] != place:
            found.append(place)
    return tuple(found)


def hand_move(world, caps, standing):
    """The hand's move: the standing behind it and the harm; None if there is none."""
    row, places, hand = standing
    told = hand_deed(world, row, places, hand)
    if told is None:
        return None
    after, behind, harm = told
    return (standing, harm) if harm is not None else ((after, _lot_of(caps, behind), hand + 1), None)


def moves_from(world, caps, standing):
    """All moves of what is known to be a standing."""
    row, places, hand = standing
    steps = guest_moves(world.house, world.kinds, caps, row, places)
    found = [(what, (after, lot, hand), harm) for what, after, lot, harm in steps]
    told = hand_move(world, caps, standing)
    if told is not None:
        found.append((HAND, *told))
    return tuple(found)


def _check_standing(world, caps, standing):
    """The errors of caps, and of any value that is no standing."""
    check_caps(world, caps)
    if not is_standing(world, caps, standing):
        raise InvalidLot(-1)


def moves(world, caps, standing):
    """All moves of a standing: what, the standing behind it, and the harm or None."""
    _check_standing(world, caps, standing)
    return moves_from(world, caps, standing)


def free_from(world, words):
    """How many deeds must be done so that none of these words is to come."""
    numbers = [at for at, told in enumerate(world.plan.deeds) if told[0] in words]
    return numbers[-1] + 1 if numbers else 0


def _fewer_from(world, caps, standing):
    """The moves that `fewer` tells of what is known to be a standing."""
    found = moves_from(world, caps, standing)
    if standing[2] < free_from(world, ASKING):
        return found
    return tuple([move for move in found if not _leaves(caps, move[0])])


def _leaves(caps, what):
    """Whether by a move all of a kind without a count leave a place."""
    return what != HAND and what[2] and caps[what[1][0]] is None


def fewer(world, caps, standing):
    """The moves without those that no harm needs where no drain and no off is to come."""
    _check_standing(world, caps, standing)
    return _fewer_from(world, caps, standing)


class Shades:
    """Rows with places that are kept, and what is under them."""

    def __init__(self, caps):
        self._caps = caps
        self._bits = {}
        self._rows = {}

    def _split(self, row, places, mark):
        """What must be the same in a greater one, and a number whose bits are the places of kinds without a count."""
        bits = 0
        for place in places:
            if self._caps[place[0]] is None:
                bits |= 1 << self._bits.setdefault(place, len(self._bits))
        return (row, tuple([place for place in places if self._caps[place[0]] is not None]), mark), bits

    def put(self, row, places, mark):
        """Keep places of a house row and a mark."""
        key, bits = self._split(row, places, mark)
        self._rows.setdefault(key, []).append(bits)

    def has_greater(self, row, places, mark):
        """Whether places are under some that are kept with the same house row and mark."""
        key, bits = self._split(row, places, mark)
        return any([bits & more == bits for more in self._rows.get(key, ())])


class Lots:
    """All standings by lots that come, and the harms that are met."""

    def __init__(self, world, caps, bound=5000, is_short=False):
        check_caps(world, caps)
        if not is_number(bound):
            raise InvalidSize("bound")
        self._house = world.house
        self._ways = []
        self._stories = {}
        self.standings = self._walk(world, caps, bound, is_short)
        self.harms = tuple(self._stories)
        self.calm = not self._stories

    def _walk(self, world, caps, bound, is_short):
        """All standings that come, those of fewer moves first."""
        settled = free_from(world, ASKING)
        shades = Shades(caps)
        met = []
        seen = {}

        def meet(standing, ahead, what):
            """A standing that may be new."""
            row, places, hand = standing
            if standing in seen or is_short and hand >= settled and shades.has_greater(row, places, hand):
                return
            if len(met) == bound:
                raise InvalidSize("standings")
            seen[standing] = True
            met.append(standing)
            self._ways.append((ahead, what))
            if is_short:
                shades.put(row, places, hand)

        meet(first_standing(world, caps), -1, None)
        at = 0
        while at < len(met):
            told = _fewer_from(world, caps, met[at]) if is_short else moves_from(world, caps, met[at])
            for what, behind, harm in told:
                if harm is None:
                    meet(behind, at, what)
                else:
                    self._stories.setdefault(harm, (at, what))
            at += 1
        return tuple(met)

    def way(self, number):
        """The whats that first led to a standing, by its number."""
        if not is_below(number, len(self.standings)):
            raise InvalidSize("number")
        whats = []
        ahead, what = self._ways[number]
        while ahead >= 0:
            whats.append(what)
            ahead, what = self._ways[ahead]
        return tuple(whats[::-1])

    def story(self, harm):
        """The whats of a shortest story that ends with a harm, None if it is not met."""
        told = checked_harm(self._house, harm)
        if told not in self._stories:
            return None
        number, what = self._stories[told]
        return (*self.way(number), what)


def led_along(world, caps, whats):
    """Where a row of any values leads as whats: the standings ahead of each and behind the last one, and its harm.

    Last it tells the number of the first one that can't be, or stands behind a harm; None if there is none.
    """
    standings, harm = [first_standing(world, caps)], None
    for at, what in enumerate(whats):
        found = []
        if harm is None and is_what(world, what):
            found = [move for move in moves_from(world, caps, standings[-1]) if move[0] == what]
        if not found:
            return standings, harm, at
        _, behind, harm = found[0]
        standings.append(behind)
    return standings, harm, None


def is_what(world, value):
    """Whether any value has the form of what is done by a move."""
    if not isinstance(value, tuple) or not value:
        return False
    if len(value) != 3:
        return value == HAND
    return value[0] == "step" and is_place(world.house, world.kinds, value[1]) and isinstance(value[2], bool)
