"""What a watched guest can come to see, whatever the others do, any number of them."""

from lightsout.basics import is_below
from lightsout.ground import Ground
from lightsout.guests import first_place, is_place, is_still, place_key
from lightsout.house import is_row
from lightsout.plans import asked_empty
from lightsout.watched import WATCHED


def is_sight(world, value):
    """Whether any value has the form of a sight of a world."""
    if not isinstance(value, tuple) or len(value) != 4 or not is_row(world.house, value[0]):
        return False
    _, places, hand, place = value
    if not isinstance(places, tuple) or not is_below(hand, len(world.plan.deeds) + 1):
        return False
    if not all([is_place(world.house, world.kinds, one) for one in (*places, place)]):
        return False
    keys = [place_key(one) for one in places]
    return all([one < other for one, other in zip(keys, keys[1:])])


class Sights:
    """The sights of a world, by numbers: (house row, taken places as bits, hand, the watched one's place).

    Of two sights the one is behind the other one if this one can do all that it can. So nothing is lost where idle
    places that no drain and no off asks for are left out (`bare`), where only what grows is gone on from (`grown`),
    and where only sights that are behind no other one are kept. If `is_strict`, sights are behind others just as
    papers ask; else no deed is asked for that can never be done, because somebody never comes out of a part.
    """

    def __init__(self, world, is_strict=False):
        self.ground = Ground(world.house, world.kinds)
        self._plan = world.plan.deeds
        self._kinds = world.kinds
        self._is_strict = is_strict
        asked = [asked_empty(told) for told in self._plan]
        self._asked = [None if name is None else world.house.number_of_part(name) for name in asked]
        rows = [row for kind in world.kinds for row in kind.rows]
        self._opened = [("open", door[0]) in rows for door in world.house.doors]
        self._growths = {}
        self._ends = {}
        self._holds = {}

    def first_of(self, kind):
        """The first sight of a kind, by its number."""
        row, bits = self.ground.begin
        return row, bits, 0, self.ground.place_number(first_place(kind))

    def asked_bits(self, hand, end):
        """The bits of the places in parts that deeds from a hand on up to another one ask to be empty."""
        bits = 0
        for part in self._asked[hand:end]:
            if part is not None:
                bits |= self.ground.bits_within(part)
        return bits

    def end_of(self, sight):
        """The number of the first deed that can never be done for somebody in its part, that of all deeds if none."""
        if self._is_strict:
            return len(self._plan)
        if sight not in self._ends:
            self._ends[sight] = self._end_of(sight)
        return self._ends[sight]

    def ends_for(self, sight):
        """All ends that a sight behind this one may have."""
        end = self.end_of(sight)
        return [end] if self._is_strict else list(range(sight[2], end + 1))

    def _end_of(self, sight):
        row, bits, hand, place = sight
        doors = [is_open or opened for is_open, opened in zip(self.ground.row_at(row)[0], self._opened)]
        for at in range(hand, len(self._plan)):
            if self._asked[at] is not None:
                there = (bits | 1 << place) & self.ground.bits_within(self._asked[at])
                if self._is_held(there, tuple(doors)):
                    return at
            if self._plan[at][0] == "open":
                doors[self.ground.house.number_of_door(self._plan[at][1])] = True
        return len(self._plan)

    def _is_held(self, bits, doors):
        """Whether from some place of these nobody comes out of the part, where only these doors can be open."""
        if (bits, doors) not in self._holds:
            places = self.ground.places_of(bits)
            self._holds[bits, doors] = any([self._never_leaves(place, doors) for place in places])
        return self._holds[bits, doors]

    def _never_leaves(self, place, doors):
        """Whether a guest stays in his part, where only these doors can be open."""
        kind, at, where, _ = place
        left = [at]
        met = {}
        while left:
            at = left.pop()
            if at in met or is_still(self.ground.house, self._kinds, (kind, at, where, None)):
                continue
            met[at] = True
            told = self._kinds[kind].rows[at]
            if told[0] == "go":
                if doors[self.ground.house.number_of_door(told[1])]:
                    return False
                continue
            if told[0] in ("when", "again"):
                left.append(told[-1])
            if told[0] != "again":
                left.append(at + 1)
        return True

    def bare(self, sight):
        """A sight without the idle places that no deed asks to be empty."""
        row, bits, hand, place = sight
        return row, bits & ~(self.ground.idle & ~self.asked_bits(hand, len(self._plan))), hand, place

    def is_behind(self, one, other):
        """Whether one sight is behind another one."""
        row, bits, hand, place = one
        after, more, behind, to = other
        if row != after or hand != behind or place != to or bits & ~more & ~self.ground.idle:
            return False
        return not more & ~bits or not more & ~bits & self.asked_bits(hand, self.end_of(one))

    def unseen(self, sight):
        """The pairs (label, sight behind it) of the others' moves and of the hand's, without a harm."""
        row, bits, hand, place = sight
        found = []
        for label, after, lot, harm in self.ground.moves(row, bits):
            if harm is None:
                found.append((label, (after, lot, hand, place)))
        if hand < len(self._plan):
            found.extend(self._hand(sight))
        return found

    def _hand(self, sight):
        """The pair of None and of what the next deed leads to, in a list, empty if it can't be done without a harm."""
        row, bits, hand, place = sight
        told = self._plan[hand]
        done = self.ground.after_deed(row, bits | 1 << place, told)
        if done is None or done[2] is not None:
            return []
        lot = self.ground.after_deed(row, bits, told)[1]
        own = self.ground.after_deed(row, 1 << place, told)[1]
        return [(None, (done[0], lot, hand + 1, own.bit_length() - 1))]

    def seen(self, sight):
        """The word that the watched one's step shows, and the sight behind it; None if he has none without a harm."""
        row, bits, hand, place = sight
        told = self.ground.stepped(row, place)
        if told is None or told[2] is not None:
            return None
        return self._word(row, place), (told[0], bits, hand, told[1])

    def _word(self, row, place):
        """What a step from a place shows: the number of the row, and the value that is seen, -1 for none."""
        number, at, _, _ = self.ground.place_at(place)
        told = self._kinds[number].rows[at]
        if told[0] != "see":
            return at, -1
        return at, self.ground.row_at(row)[2][self.ground.house.number_of_cell(told[1])]

    def grown(self, sight):
        """The labels of moves that lead from a bare sight to one that it is behind, and this one."""
        if sight not in self._growths:
            labels = []
            better = sight
            last = None
            while last != better:
                last = better
                better = self._grown_once(better, labels)
            self._growths[sight] = (tuple(labels), better)
        return self._growths[sight]

    def _grown_once(self, sight, labels):
        """The sight behind steps from each place that only help; the labels of these are put behind the others."""
        row, bits, hand, place = sight
        asked = self._asked[hand:self.end_of(sight)]
        for spot in self.ground.lot_of(bits):
            told = self.ground.stepped(row, spot)
            if told is None or told[2] is not None or told[0] != row or told[1] == spot:
                continue
            to = 1 << told[1]
            is_free = self.ground.place_at(told[1])[2] not in asked
            if not self.ground.idle >> spot & 1:
                if is_free and not to & (self.ground.idle | bits):
                    bits |= to
                    labels.append((spot, False))
            elif self.ground.place_at(spot)[2] in asked and (is_free or to & bits):
                bits ^= 1 << spot
                labels.append((spot, True))
        return self.bare((row, bits, hand, place)) if bits != sight[1] else sight

    def spread(self, sights):
        """Some of these sights from which unseen moves lead to all that they lead to from all; and all that, in order.

        What is behind others is left out.
        """
        tops = Tops(self)
        seen = {}
        seeds = []
        found = []
        for seed in sights:
            many = len(found)
            left = [seed]
            while left:
                sight = left.pop()
                if sight in seen:
                    continue
                seen[sight] = True
                _, better = self.grown(self.bare(sight))
                if tops.put(better, 0):
                    found.append(better)
                    left.extend([behind for _, behind in self.unseen(better) if behind not in seen])
            if len(found) > many:
                seeds.append(self.bare(seed))
        return tuple(seeds), self._greatest_of(found)

    def _greatest_of(self, sights):
        """Those of some sights that are behind no other one, in order."""
        ranked = []
        for sight in sights:
            busy = len(self.ground.lot_of(sight[1] & ~self.ground.idle))
            ranked.append((-busy, len(self.ground.lot_of(sight[1])), sight))
        tops = Tops(self)
        return tuple(sorted([sight for _, _, sight in sorted(ranked) if tops.put(sight, 0)]))

    def what_of(self, label):
        """What is done by a label; the watched one's step is its own label."""
        return WATCHED if label == WATCHED else self.ground.what_of(label)

    def sight_of(self, numbers):
        """The sight that numbers tell."""
        row, bits, hand, place = numbers
        return self.ground.row_at(row), self.ground.places_of(bits), hand, self.ground.place_at(place)

    def numbers_of(self, sight):
        """The numbers of what is known to be a sight."""
        row, places, hand, place = sight
        ground = self.ground
        return ground.row_number(row), ground.bits_of(places), hand, ground.place_number(place)


class Tops:
    """Sights that are kept, each with a mark, and those behind them.

    A sight is kept once for each end that one behind it may have: what must be taken in both then is told by a key.
    Marks are numbers; one serves in the place of another one if it is the same, or, for rows of a crowd, under it.
    """

    def __init__(self, sights, crowd=None):
        self._sights = sights
        self._crowd = crowd
        self._lots = {}

    def _key(self, sight, end):
        """What is the same in a sight that is behind one of this end, or ahead of one."""
        row, bits, hand, place = sight
        return row, hand, place, end, bits & ~self._sights.ground.idle & self._sights.asked_bits(hand, end)

    def has_greater(self, sight, mark):
        """Whether a sight is behind one that is kept with a mark that serves."""
        row, _, hand, place = sight
        for lot, other in self._lots.get(self._key(sight, self._sights.end_of(sight)), ()):
            if self._serves(other, mark) and self._sights.is_behind(sight, (row, lot, hand, place)):
                return True
        return False

    def _serves(self, one, other):
        """Whether one mark serves in the place of another one."""
        return one == other or self._crowd is not None and self._crowd.is_under(one, other)

    def put(self, sight, mark):
        """Keep a sight with a mark, if it is behind none that serves; tell whether it is kept."""
        if self.has_greater(sight, mark):
            return False
        self.keep(sight, mark)
        return True

    def keep(self, sight, mark):
        """Keep a sight with a mark."""
        for end in self._sights.ends_for(sight):
            self._lots.setdefault(self._key(sight, end), []).append((sight[1], mark))
