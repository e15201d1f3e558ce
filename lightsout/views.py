"""Houses seen from outside: outlines, ways, and parts that go dark."""

from itertools import combinations

from lightsout.basics import is_name, is_sequence, replaced, way_to
from lightsout.errors import InvalidLot, InvalidOrder, InvalidStory
from lightsout.house import House, part_named

VIEW_DEEDS = ("go", "open", "see")


def _is_view_deed(value):
    """Whether any value is a sequence of one of the three words and a name."""
    if not is_sequence(value) or len(value) != 2:
        return False
    return isinstance(value[0], str) and value[0] in VIEW_DEEDS and is_name(value[1])


def _numbers(house):
    """The numbers of the doors and of the cells by their names."""
    doors = {door[0]: at for at, door in enumerate(house.doors)}
    return doors, {cell[0]: at for at, cell in enumerate(house.cells)}


def _view_behind(house, numbers, state, told):
    """The pair (where, doors that are open) behind a deed, None if it can't be done."""
    where, doors = state
    word, name = told
    if word == "see":
        cell = numbers[1].get(name)
        return None if cell is None or house.cell_parts[cell] != where else state
    door = numbers[0].get(name)
    if door is None or where not in house.ends[door]:
        return None
    if word == "open":
        return where, replaced(doors, door, True)
    return (house.far_end(door, where), doors) if doors[door] else None


def _first_view(house):
    """The yard, and the doors that are open at first."""
    return -1, tuple([door[3] for door in house.doors])


def where_behind(house, deeds):
    """The part in which deeds leave a guest, -1 for the yard, None if one of them can't be done."""
    if not is_sequence(deeds):
        raise InvalidStory(0)
    for at, told in enumerate(deeds):
        if not _is_view_deed(told):
            raise InvalidStory(at)
    numbers = _numbers(house)
    state = _first_view(house)
    for told in deeds:
        state = _view_behind(house, numbers, state, told)
        if state is None:
            return None
    return state[0]


def _core_order(house):
    """The yard and the parts of the core, by least ways from the yard."""
    spots = [-1]
    at = 0
    while at < len(spots):
        spot = spots[at]
        # The spots ahead come in the order of their least ways, so the first way to a part is its least one.
        doors = sorted([(house.doors[door][0], door) for door in house.doors_at(spot)])
        for _, door in doors:
            far = house.far_end(door, spot)
            if far not in spots:
                spots.append(far)
        at += 1
    return spots


def core_house(house):
    """The house of what hangs together with the yard, None if no door is at the yard."""
    spots = _core_order(house)
    if len(spots) == 1:
        return None
    names = [name for at, name in enumerate(house.parts) if at in spots]
    doors = [door for door, ends in zip(house.doors, house.ends) if ends[0] in spots]
    return House(names, doors, [cell for cell in house.cells if cell[1] in names])


def outline(house):
    """What is seen of a house: its core's doors and cells, with numbers of the parts."""
    spots = _core_order(house)
    doors = []
    for (name, _, _, is_open), (one, other) in zip(house.doors, house.ends):
        if one in spots:
            numbers = sorted([spots.index(one), spots.index(other)])
            doors.append((name, *numbers, is_open))
    cells = [(cell[0], spots.index(part)) for cell, part in zip(house.cells, house.cell_parts) if part in spots]
    return tuple(sorted(doors)), tuple(sorted(cells))


def matching(one, other):
    """The pairs of names of parts with equal numbers, None for houses that are not alike."""
    if outline(one) != outline(other):
        return None
    parts = _core_order(one)[1:]
    matches = _core_order(other)[1:]
    return tuple([(one.parts[part], other.parts[match]) for part, match in zip(parts, matches)])


def _names_of(houses):
    """All deeds with the names of doors and cells of some houses, ascending."""
    deeds = []
    for house in houses:
        for door in house.doors:
            deeds.extend([("go", door[0]), ("open", door[0])])
        deeds.extend([("see", cell[0]) for cell in house.cells])
    return sorted(set(deeds))


def told_apart(one, other):
    """The least sequence of deeds that can be done in just one of two houses, None if they are alike."""
    if outline(one) == outline(other):
        return None
    deeds = _names_of([one, other])
    numbers = _numbers(one)
    others = _numbers(other)

    def moves(state):
        """Each deed with what is behind it in both houses, None where one alone can do it."""
        found = []
        for told in deeds:
            behind = _view_behind(one, numbers, state[0], told)
            match = _view_behind(other, others, state[1], told)
            if behind is not None and match is not None:
                found.append((told, (behind, match)))
            elif behind is not None or match is not None:
                found.append((told, None))
        return found

    return way_to((_first_view(one), _first_view(other)), moves, lambda state: state is None)


def _checked_lot(house, parts, may_be_empty):
    """The numbers of the parts of any value that is a lot of parts."""
    if not is_sequence(parts) or not (parts or may_be_empty):
        raise InvalidLot(0)
    lot = []
    for at, name in enumerate(parts):
        if not is_name(name) or name in parts[:at]:
            raise InvalidLot(at)
        lot.append(house.number_of_part(name))
    return lot


def _come_to(house, closed, inside):
    """The spots to which one comes from the yard without closed doors, through the parts of a lot alone."""
    spots = [-1]
    at = 0
    while at < len(spots):
        spot = spots[at]
        for door in house.doors_at(spot):
            far = house.far_end(door, spot)
            if door not in closed and far in inside and far not in spots:
                spots.append(far)
        at += 1
    return spots


def _all_parts(house):
    """The numbers of all parts."""
    return list(range(len(house.parts)))


def _direction(house, door, spot):
    """1 from the door's first end to its other one, -1 back."""
    return 1 if house.ends[door][0] == spot else -1


def _flow_way(house, lot, flow, is_along):
    """The pairs (door, direction) of a way along what flows, or through what does not flow so; None if none is."""
    def moves(spot):
        """What can be gone through from a spot, and what is behind it."""
        sides = [(door, _direction(house, door, spot)) for door in house.doors_at(spot)]
        return [(side, house.far_end(side[0], spot)) for side in sides if (flow[side[0]] == side[1]) == is_along]

    return way_to(-1, moves, lambda spot: spot in lot)


def _greatest_flow(house, lot):
    """For each door 1 or -1 if one of the most ways goes through it (-1: back), else 0."""
    flow = [0] * len(house.doors)
    way = _flow_way(house, lot, flow, False)
    while way is not None:
        for door, direction in way:
            # To go through against what flows takes back what went there.
            flow[door] += direction
        way = _flow_way(house, lot, flow, False)
    return flow


def _apart(house, lot):
    """Some of the most ways to a lot without a common door."""
    flow = _greatest_flow(house, lot)
    ways = []
    way = _flow_way(house, lot, flow, True)
    while way is not None:
        for door, _ in way:
            flow[door] = 0
        ways.append(tuple([house.doors[door][0] for door, _ in way]))
        way = _flow_way(house, lot, flow, True)
    return tuple(ways)


def ways_apart(house, parts):
    """As many ways to a lot of parts as there can be without a common door."""
    return _apart(house, _checked_lot(house, parts, False))


def _is_way(house, lot, value):
    """Whether any value is a way to a lot."""
    if not is_sequence(value):
        return False
    spots = [-1]
    numbers = _numbers(house)[0]
    for name in value:
        door = numbers.get(name) if isinstance(name, str) else None
        far = None if door is None else house.far_end(door, spots[-1])
        if far is None or far in spots or spots[-1] in lot:
            return False
        spots.append(far)
    return spots[-1] in lot


def ways_hold(house, parts, value):
    """Whether any value is as many ways to a lot of parts as there can be without a common door."""
    lot = _checked_lot(house, parts, False)
    if not is_sequence(value) or not all([_is_way(house, lot, way) for way in value]):
        return False
    names = [name for way in value for name in way]
    return len(set(names)) == len(names) and len(value) == len(_apart(house, lot))


def closers(house, parts):
    """The least of the smallest lots of doors one of which each way to a lot of parts goes through."""
    lot = _checked_lot(house, parts, False)
    many = len(_apart(house, lot))
    for names in combinations(sorted([door[0] for door in house.doors]), many):
        closed = [house.number_of_door(name) for name in names]
        if not any([part in lot for part in _come_to(house, closed, _all_parts(house))]):
            return names
    return ()


def needful_doors(house, part):
    """The doors through which every way to a part goes, in order, None if there is no way."""
    number = part_named(house, part)

    def moves(spot):
        """The doors of a spot, with what is behind each."""
        return [(door, house.far_end(door, spot)) for door in house.doors_at(spot)]

    way = way_to(-1, moves, lambda spot: spot == number)
    if way is None:
        return None
    every = _all_parts(house)
    return tuple([house.doors[door][0] for door in way if number not in _come_to(house, [door], every)])


def _named(house, numbers):
    """The names of those parts, in the house's order."""
    return tuple([name for at, name in enumerate(house.parts) if at in numbers])


def held_within(house, parts):
    """The greatest held lot of some of these parts."""
    return _named(house, _come_to(house, [], _checked_lot(house, parts, True)))


def _is_held(house, lot):
    """Whether there is a way to each part of a lot through parts of the lot alone."""
    return len(_come_to(house, [], lot)) == len(lot) + 1


def may_go(house, parts):
    """Those parts of a held lot without each of which it is held."""
    lot = _checked_lot(house, parts, True)
    spots = _come_to(house, [], lot)
    for at, part in enumerate(lot):
        if part not in spots:
            raise InvalidLot(at)
    return _named(house, [part for part in lot if _is_held(house, [other for other in lot if other != part])])


def _checked_order(house, order):
    """The numbers of the parts of any value that is an order."""
    names = _named(house, _core_order(house))
    if not is_sequence(order):
        raise InvalidOrder(0)
    for at, name in enumerate(order):
        if name not in names or name in order[:at]:
            raise InvalidOrder(at)
    if len(order) < len(names):
        raise InvalidOrder(len(order))
    return [house.number_of_part(name) for name in order]


def dark_orders(house):
    """How many orders are good."""
    parts = _core_order(house)[1:]
    ways = {(): 1}
    for size in range(1, len(parts) + 1):
        for lot in combinations(parts, size):
            if _is_held(house, lot):
                rests = [tuple([other for other in lot if other != part]) for part in lot]
                ways[lot] = sum([ways.get(rest, 0) for rest in rests])
    return ways[tuple(parts)]


def first_cut(house, order):
    """The number of the first step behind which what is left is not held, None for a good order."""
    row = _checked_order(house, order)
    for at in range(len(row)):
        if not _is_held(house, row[at + 1:]):
            return at
    return None


def cut_off(house, order):
    """The parts that are not come to behind the first cut of an order."""
    row = _checked_order(house, order)
    at = first_cut(house, order)
    left = [] if at is None else row[at + 1:]
    spots = _come_to(house, [], left)
    return _named(house, [part for part in left if part not in spots])
