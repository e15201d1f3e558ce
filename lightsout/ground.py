"""Where any number of guests may come: places and house rows by numbers, so that much can be gone through."""

from lightsout.basics import labels_to
from lightsout.errors import InvalidSize
from lightsout.guests import first_place, place_key, step
from lightsout.house import first_row
from lightsout.lots import HAND, MOST_STANDINGS
from lightsout.plans import deed

# The rows by which a guest changes the house row.
CHANGING = ("set", "tell", "shut", "open")


def _rows_from(rows, at):
    """The numbers of the rows that can come from a row of a program on, wherever a guest is."""
    met = {}
    left = [at]
    while left:
        number = left.pop()
        if number in met or number == len(rows):
            continue
        met[number] = True
        told = rows[number]
        if told[0] in ("when", "again"):
            left.append(told[-1])
        if told[0] not in ("again", "rest"):
            left.append(number + 1)
    return list(met)


def _idle_rows(rows):
    """For each row of a program, and behind the last one, whether no house row is changed from it on."""
    found = []
    for at in range(len(rows) + 1):
        found.append(not any([rows[number][0] in CHANGING for number in _rows_from(rows, at)]))
    return found


class Ground:
    """What guests and deeds do in a house; the bits of a number tell which places are taken.

    All that is told goes in the order of places, whatever numbers they have, so that equal calls tell the same.
    """

    def __init__(self, house, kinds):
        self.house = house
        self.kinds = kinds
        self._places = []
        self._place_numbers = {}
        self._rows = []
        self._row_numbers = {}
        # For each part, and behind them for the yard, the places there.
        self._within = [0] * (len(house.parts) + 1)
        self._idle_rows = [_idle_rows(kind.rows) for kind in kinds]
        # The bits of all places that are known from which on nothing is changed.
        self.idle = 0
        self._lots = {}
        self._step_table = {}
        self._move_table = {}
        self._deed_table = {}
        self.roots = self.bits_of([first_place(number) for number in range(len(kinds))])
        self.begin = (self.row_number(first_row(house)), self.roots)

    def place_number(self, place):
        """The number of a place."""
        if place not in self._place_numbers:
            number = len(self._places)
            self._place_numbers[place] = number
            self._places.append(place)
            self._within[place[2]] |= 1 << number
            if self._idle_rows[place[0]][place[1]]:
                self.idle |= 1 << number
        return self._place_numbers[place]

    def row_number(self, row):
        """The number of a house row."""
        if row not in self._row_numbers:
            self._row_numbers[row] = len(self._rows)
            self._rows.append(row)
        return self._row_numbers[row]

    def place_at(self, number):
        """The place that has a number."""
        return self._places[number]

    def row_at(self, number):
        """The house row that has a number."""
        return self._rows[number]

    def bits_of(self, places):
        """The number whose bits are these places."""
        bits = 0
        for place in places:
            bits |= 1 << self.place_number(place)
        return bits

    def bits_within(self, where):
        """The number whose bits are all places that are known in a part, or in the yard."""
        return self._within[where]

    def lot_of(self, bits):
        """The numbers of the places that are the bits of a number, in the order of places."""
        if bits not in self._lots:
            found = [number for number in range(bits.bit_length()) if bits >> number & 1]
            keyed = sorted([(place_key(self._places[number]), number) for number in found])
            self._lots[bits] = tuple([number for _, number in keyed])
        return self._lots[bits]

    def places_of(self, bits):
        """The places that are the bits of a number, in order."""
        return tuple([self._places[number] for number in self.lot_of(bits)])

    def stepped(self, row, place):
        """The house row, the place and the harm of a step, by numbers; None if there is no step now."""
        if (row, place) not in self._step_table:
            told = step(self.house, self.kinds, self._rows[row], self._places[place])
            if told is not None:
                told = (self.row_number(told[0]), self.place_number(told[1]), told[2])
            self._step_table[row, place] = told
        return self._step_table[row, place]

    def moves(self, row, bits):
        """All moves of guests: the place and whether all leave it, the house row, the places, and the harm or None."""
        if (row, bits) not in self._move_table:
            found = []
            for place in self.lot_of(bits):
                told = self.stepped(row, place)
                if told is not None:
                    found.extend(self._moves_of(row, bits, place, told))
            self._move_table[row, bits] = tuple(found)
        return self._move_table[row, bits]

    def _moves_of(self, row, bits, place, told):
        """The moves of those at a place, of what `stepped` has told of it."""
        after, to, harm = told
        if harm is not None:
            return [((place, False), row, bits, harm)]
        found = [(False, bits | 1 << to)]
        if not self.roots >> place & 1:
            found.append((True, bits ^ 1 << place | 1 << to))
        return [((place, is_left), after, lot, None) for is_left, lot in found if after != row or lot != bits]

    def after_deed(self, row, bits, told):
        """The house row and the places behind a deed, and its harm; None if it can't be done now."""
        if (row, bits, told) not in self._deed_table:
            done = deed(self.house, self._rows[row], self.places_of(bits), told)
            if done is not None:
                done = (self.row_number(done[0]), self.bits_of(done[1]), done[2])
            self._deed_table[row, bits, told] = done
        return self._deed_table[row, bits, told]

    def what_of(self, label):
        """What is done by the label of a move; None stands for the hand's."""
        if label is None:
            return HAND
        return "step", self._places[label[0]], label[1]

    def standing_of(self, row, bits, mark):
        """House row and places, with a mark."""
        return self._rows[row], self.places_of(bits), mark


def check_met(many):
    """InvalidSize if more standings are met than are gone through."""
    if many > MOST_STANDINGS:
        raise InvalidSize("standings")


def walked(firsts, moves, is_brief=False):
    """What is met in breadth from some states, and the harms that are met.

    `moves` gives for a state its triples (label, state, harm or None). Each entry met is (state, number of the entry
    ahead, label). For each harm there is the pair of the number of the entry from which it is met first, and the
    label; with `is_brief` the first harm ends all.
    """
    met = [(state, -1, None) for state in firsts]
    check_met(len(met))
    seen = {state: True for state in firsts}
    harms = {}
    at = 0
    while at < len(met):
        told = moves(met[at][0])
        for label, state, harm in told:
            if harm is not None:
                harms.setdefault(harm, (at, label))
                if is_brief:
                    return met, harms
            elif state not in seen:
                seen[state] = True
                met.append((state, at, label))
                check_met(len(met))
        at += 1
    return met, harms


def labels_to_harm(met, end):
    """The labels of the moves that lead to a harm, of what `walked` has told of it."""
    at, label = end
    return (*labels_to(met, at), label)
