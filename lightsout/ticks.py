"""Guests who keep to told times: their spots, and what ticks and deeds do to them."""

from lightsout.basics import is_below, is_integer, is_sequence, search, labels_to_last
from lightsout.errors import InvalidSize
from lightsout.guests import is_still
from lightsout.house import first_row
from lightsout.plans import deed

MOST_TICKS = 9


def checked_times(kinds, times):
    """Any value as tuples, if it tells how long each row of the kinds lasts."""
    if not is_sequence(times) or len(times) != len(kinds):
        raise InvalidSize("times")
    for kind, ticks in zip(kinds, times):
        if not is_sequence(ticks) or len(ticks) != len(kind.rows):
            raise InvalidSize("times")
        if not all([is_integer(many) and 1 <= many <= MOST_TICKS for many in ticks]):
            raise InvalidSize("times")
    return tuple([tuple(ticks) for ticks in times])


def _hand_rows(world):
    """For each number of done deeds the house row that the hand alone makes."""
    rows = [first_row(world.house)]
    for told in world.plan.deeds:
        rows.append(deed(world.house, rows[-1], (), told)[0])
    return rows


def _doors_told(world, word):
    """The numbers of the doors of which some kind has a row with a word."""
    rows = [row for kind in world.kinds for row in kind.rows]
    return [world.house.number_of_door(row[1]) for row in rows if row[0] == word]


class Ticks:
    """The spots of a world's guests, and what leads from one to another."""

    def __init__(self, world, times):
        self.times = checked_times(world.kinds, times)
        self._house = world.house
        self._kinds = world.kinds
        self._plan = world.plan.deeds
        self._rows = _hand_rows(world)
        self._opened = _doors_told(world, "open")
        self._shut = _doors_told(world, "shut")
        self._known = {}

    def begun(self, kind, row, where, own=-1):
        """The spot of a guest who begins a row, having opened a door by the row ahead or not."""
        left = 0 if self._is_still(kind, row, where) else self.times[kind][row]
        return kind, row, where, left, own if own == self._door_of(kind, row) else -1

    def firsts(self):
        """The spots of those who come."""
        return tuple([self.begun(kind, 0, -1) for kind in range(len(self._kinds))])

    def is_spot(self, value):
        """Whether any value has the form of a spot."""
        if not isinstance(value, tuple) or len(value) != 5 or not all([is_integer(part) for part in value]):
            return False
        kind, row, where, left, own = value
        if not is_below(kind, len(self._kinds)) or not is_below(row, len(self._kinds[kind].rows) + 1):
            return False
        if not -1 <= where < len(self._house.parts) or own not in (-1, self._door_of(kind, row)):
            return False
        return left == 0 if self._is_still(kind, row, where) else 1 <= left <= self.times[kind][row]

    def _is_still(self, kind, row, where):
        """Whether a guest stands still for ever there."""
        return is_still(self._house, self._kinds, (kind, row, where, None))

    def _door_of(self, kind, row):
        """The number of the door that a row goes through, -1 if it goes through none."""
        rows = self._kinds[kind].rows
        if row == len(rows) or rows[row][0] != "go":
            return -1
        return self._house.number_of_door(rows[row][1])

    def after(self, spot, done):
        """The spots, in order, to which a tick without harm leads when so many deeds are done."""
        return self._told(spot, done)[0]

    def dark(self, spot, done):
        """The spot and the harm to which a tick into the dark leads, None if none does."""
        return self._told(spot, done)[1]

    def _told(self, spot, done):
        """What `after` and `dark` tell."""
        key = (spot, done)
        if key not in self._known:
            found, dark = self._tick(spot, done)
            self._known[key] = (tuple(sorted(set(found))), dark)
        return self._known[key]

    def _tick(self, spot, done):
        """The spots to which a tick without harm leads, in any order; the one in the dark with its harm, or None."""
        kind, row, where, left, own = spot
        if left == 0:
            return [spot], None
        stay = [spot] if where == -1 else []
        if left > 1:
            return [*stay, (kind, row, where, left - 1, own)], None
        told = self._kinds[kind].rows[row]
        if told[0] == "go":
            found, dark = self._go(spot, done)
            return stay + found, dark
        if told[0] == "wait":
            return [spot, self.begun(kind, row + 1, where)], None
        if told[0] == "again":
            return [*stay, self.begun(kind, told[1], where)], None
        if told[0] == "when":
            return [*stay, self.begun(kind, told[2], where), self.begun(kind, row + 1, where)], None
        opened = self._house.number_of_door(told[1]) if told[0] == "open" else -1
        return [*stay, self.begun(kind, row + 1, where, opened)], None

    def _go(self, spot, done):
        """What the last tick of a row leads to that goes through a door."""
        kind, row, where, _, own = spot
        door = self._door_of(kind, row)
        doors, lights = self._rows[done][:2]
        found = []
        dark = None
        if doors[door] or own == door or door in self._opened:
            to = self._house.far_end(door, where)
            behind = self.begun(kind, row + 1, to)
            if to >= 0 and not lights[to]:
                dark = (behind, ("dark", self._house.parts[to]))
            else:
                found.append(behind)
        if door in self._shut or not doors[door] and own != door:
            found.append(spot)
        return found, dark

    def behind_deed(self, spot, done):
        """The spot behind the deed that is next when so many are done, and the harm or None."""
        word, name = self._plan[done]
        if word == "shut" and spot[4] == self._house.number_of_door(name):
            return (*spot[:4], -1), None
        if word == "off":
            part = self._house.number_of_part(name)
            if self._rows[done][1][part] and spot[2] == part:
                return spot, ("inside", name)
        return spot, None

    def ring_at(self, spot, done):
        """The spots of a shortest row of ticks from a spot to itself, itself last; None if there is none."""

        def moves(state):
            """Each spot behind one, as what is told and as what is come to."""
            return [(behind, (behind, True)) for behind in self.after(state[0], done)]

        met = search((spot, False), moves, lambda state: state == (spot, True))
        return labels_to_last(met) if met[-1][0] == (spot, True) else None
