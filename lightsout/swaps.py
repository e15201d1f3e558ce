"""Inner houses within worlds, and others in their place."""

from lightsout.errors import InvalidGuest, InvalidHouse, InvalidSize
from lightsout.faces import MOST_PARTS, Inner
from lightsout.guests import CELL_WORDS, DOOR_WORDS
from lightsout.house import House
from lightsout.plans import World
from lightsout.traces import kind_number


def _parts_behind(house, gate_in, gates):
    """The numbers of the parts that hang together with that behind a gate, without the gates."""
    met = [part for part in house.ends[gate_in] if part != -1]
    at = 0
    while at < len(met):
        spot = met[at]
        for door in house.doors_at(spot):
            part = house.far_end(door, spot)
            if door not in gates and part != -1 and part not in met:
                met.append(part)
        at += 1
    return sorted(met)


def _checked_parts(house, gate_in, gate_out):
    """The numbers of the parts of the inner house between two gates, by their numbers."""
    if gate_in == gate_out or -1 not in house.ends[gate_in]:
        raise InvalidHouse(gate_in)
    parts = _parts_behind(house, gate_in, (gate_in, gate_out))
    for door, ends in enumerate(house.ends):
        if door not in (gate_in, gate_out) and -1 in ends and (ends[0] in parts or ends[1] in parts):
            raise InvalidHouse(door)
    if len([end for end in house.ends[gate_out] if end in parts]) != 1:
        raise InvalidHouse(gate_out)
    return parts


def _spot_within(names, spot):
    """The name of a spot as an inner house of these parts tells it."""
    return spot if spot in names else "out"


def _things_within(house, parts, gates):
    """The parts, the doors and the cells of an inner house of these parts."""
    names = [house.parts[part] for part in parts]
    doors = []
    for at, (name, one, other, is_open) in enumerate(house.doors):
        if at in gates or one in names or other in names:
            doors.append((name, _spot_within(names, one), _spot_within(names, other), is_open))
    return names, doors, [cell for cell in house.cells if cell[1] in names]


def _check_others(world, name, doors, cells, gate_out):
    """InvalidGuest for the first row of another kind that names a door or a cell of an inner house, but its way out."""
    taken = [door[0] for door in doors]
    held = [cell[0] for cell in cells]
    at = 0
    for kind in world.kinds:
        for row in kind.rows:
            is_let = row[0] in ("shut", "open") and row[1] == gate_out
            is_named = row[0] in DOOR_WORDS and row[1] in taken or row[0] in CELL_WORDS and row[1] in held
            if kind.name != name and is_named and not is_let:
                raise InvalidGuest(at)
            at += 1


def inner_of(world, name, gate_in, gate_out):
    """The inner house that stands in a world between two gates, for the kind of a name."""
    if not isinstance(world, World):
        raise InvalidSize("world")
    kind = world.kinds[kind_number(world, name)]
    gates = [world.house.number_of_door(gate_in), world.house.number_of_door(gate_out)]
    parts = _checked_parts(world.house, gates[0], gates[1])
    if len(parts) > MOST_PARTS:
        raise InvalidSize("parts")
    names, doors, cells = _things_within(world.house, parts, gates)
    inner = Inner(House(names, doors, cells), kind, gate_in, gate_out)
    _check_others(world, name, doors, cells, gate_out)
    return inner


def _put_in_place(things, old, new):
    """Things with new ones where the first old one stood, behind all if there was none, and without the old ones."""
    left = [thing for thing in things if thing not in old]
    numbers = [at for at, thing in enumerate(things) if thing in old]
    first = numbers[0] if numbers else len(left)
    return [*left[:first], *new, *left[first:]]


def _door_outside(door, gate, end):
    """A door of an inner house as the rest has it: one end of a gate may be elsewhere."""
    name, one, other, is_open = door
    if name != gate:
        return door
    return name, end if one == "out" else one, end if other == "out" else other, is_open


def exchanged_in(world, inner):
    """The world with an inner house in the place of that of the same kind's name and gates."""
    if not isinstance(inner, Inner):
        raise InvalidSize("inner")
    old = inner_of(world, inner.kind.name, inner.gate_in, inner.gate_out).house
    house = world.house
    _, one, other, _ = house.doors[house.number_of_door(inner.gate_out)]
    end = other if one in old.parts else one
    names = [door[0] for door in old.doors]
    doors = [_door_outside(door, inner.gate_out, end) for door in inner.house.doors]
    changed = House(
        _put_in_place(house.parts, old.parts, inner.house.parts),
        _put_in_place(house.doors, [door for door in house.doors if door[0] in names], doors),
        _put_in_place(house.cells, old.cells, inner.house.cells),
    )
    kinds = [inner.kind if kind.name == inner.kind.name else kind for kind in world.kinds]
    return World(changed, kinds, world.plan)
