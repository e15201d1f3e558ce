"""One guest, whatever is done around him, and one guest alone."""

from lightsout.basics import is_below, reach, way_to
from lightsout.errors import InvalidHouse, InvalidLot
from lightsout.guests import check_names, first_place, is_place, is_still, placed, step
from lightsout.house import is_row


def _check_number(kinds, number):
    """InvalidLot for any value that is the number of no kind."""
    if not is_below(number, len(kinds)):
        raise InvalidLot(0)


def _check_place(house, kinds, place):
    """InvalidLot for any value that is no place."""
    if not is_place(house, kinds, place):
        raise InvalidLot(0)


def _kind_rows(house):
    """House rows in which whoever has a step in any row has it, without harm if there is one without."""
    cells = len(house.cells)
    opened = (True,) * len(house.doors)
    lit = (True,) * len(house.parts)
    nothing = (0,) * cells
    return [(opened, lit, (value,) * cells, nothing, nothing) for value in range(3)]


def _may_age(house, place):
    """Whether what a guest's pocket has may get old while he stands there."""
    pocket = place[3]
    if pocket is None or pocket[2]:
        return False
    return not house.kept[pocket[0]] and house.cell_parts[pocket[0]] != place[2]


def _behind(house, kinds, rows, place):
    """All places that one step from a place leads to."""
    found = {}
    for row in rows:
        told = step(house, kinds, row, place)
        if told is not None and told[2] is None:
            found[told[1]] = True
    if _may_age(house, place):
        aged = (*place[:3], (*place[3][:2], True))
        found[aged] = True
    return placed(list(found))


def _moves_of(house, kinds):
    """The function that gives for a place the pairs of a place behind it, twice."""
    rows = _kind_rows(house)

    def moves(place):
        """Each place behind one, as what is told and as what is come to."""
        return [(other, other) for other in _behind(house, kinds, rows, place)]

    return moves


def places_behind(house, kinds, place):
    """All places that one step leads to, whatever the house row is."""
    _check_place(house, kinds, place)
    check_names(house, kinds)
    return _behind(house, kinds, _kind_rows(house), place)


def guest_places(house, kinds, number):
    """All places that a kind's guest can come to."""
    _check_number(kinds, number)
    check_names(house, kinds)
    return placed(reach(first_place(number), _moves_of(house, kinds)))


def guest_way(house, kinds, number, place):
    """The first of the shortest rows of places from the first one to a place, None if he never comes there."""
    _check_number(kinds, number)
    _check_place(house, kinds, place)
    check_names(house, kinds)
    first = first_place(number)
    way = way_to(first, _moves_of(house, kinds), lambda other: other == place)
    return None if way is None else (first, *way)


def _rests(kinds, place):
    """Whether a guest is at a rest or behind the last row."""
    rows = kinds[place[0]].rows
    return place[1] == len(rows) or rows[place[1]] == ("rest",)


def guest_strays(house, kinds, number):
    """The places at which he stands still for ever, but at a rest and behind the last row."""
    places = guest_places(house, kinds, number)
    return tuple([place for place in places if is_still(house, kinds, place) and not _rests(kinds, place)])


def guest_out(house, kinds, place):
    """Some shortest way from a place to one in the yard, None for a trap."""
    _check_place(house, kinds, place)
    check_names(house, kinds)
    way = way_to(place, _moves_of(house, kinds), lambda other: other[2] == -1)
    return None if way is None else (place, *way)


def guest_ranks(house, kinds, number):
    """Each place that he can come to with how many steps it is out, None for a trap."""
    places = guest_places(house, kinds, number)
    rows = _kind_rows(house)
    behind = {place: _behind(house, kinds, rows, place) for place in places}
    ranks = {place: 0 for place in places if place[2] == -1}
    rank = 0
    is_more = True
    while is_more:
        rank += 1
        found = [place for place in places if place not in ranks and any([other in ranks for other in behind[place]])]
        for place in found:
            ranks[place] = rank
        is_more = len(found) > 0
    return tuple([(place, ranks.get(place)) for place in places])


def guest_traps(house, kinds, number):
    """The places from which no step, nor any row of them, leads to the yard."""
    return tuple([place for place, rank in guest_ranks(house, kinds, number) if rank is None])


def _end_at(house, kinds, place):
    """How a guest alone ends who has no step from a place now."""
    if _rests(kinds, place):
        return ("rests",)
    if is_still(house, kinds, place):
        return "stray", place[1]
    return "waits", place[1]


def alone(house, kinds, number, row):
    """The standings of a guest whom nobody meets, one behind another, and how it ends."""
    _check_number(kinds, number)
    if not is_row(house, row):
        raise InvalidHouse(0)
    check_names(house, kinds)
    standing = (row, first_place(number))
    met = []
    numbers = {}
    while standing not in numbers:
        numbers[standing] = len(met)
        met.append(standing)
        told = step(house, kinds, standing[0], standing[1])
        if told is None:
            return tuple(met), _end_at(house, kinds, standing[1])
        standing = (told[0], told[1])
        if told[2] is not None:
            return (*met, standing), told[2]
    return tuple(met), ("ring", numbers[standing])
