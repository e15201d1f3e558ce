"""What bells, lamps and faces tell the hand, and sensors that count."""

from lightsout.basics import is_number, is_sequence
from lightsout.errors import InvalidLot, InvalidSensor, InvalidSize, InvalidStory, Refused
from lightsout.events import event_done, event_told, first_stage
from lightsout.guests import first_place, step
from lightsout.lots import HAND, any_number, come_to, first_standing, gone_from, hand_move, is_what


def is_sensor(house, value):
    """Whether any value is a sensor of a house."""
    if not isinstance(value, tuple) or len(value) != 2 or not isinstance(value[1], str):
        return False
    names = {
        "bell": [door[0] for door in house.doors],
        "lamp": list(house.parts),
        "face": [cell[0] for cell in house.cells],
    }
    return isinstance(value[0], str) and value[1] in names.get(value[0], ())


def check_sensors(house, sensors):
    """InvalidSensor for any value that is no row of unlike sensors of a house."""
    if not is_sequence(sensors):
        raise InvalidSensor(-1)
    for at, sensor in enumerate(sensors):
        if not is_sensor(house, sensor) or sensor in sensors[:at]:
            raise InvalidSensor(at)


def entry_at(house, sensors, standing, lit):
    """What sensors tell at a look; `lit` are the names of the doors whose bells are lit."""
    row, places, _ = standing
    spots = [place[2] for place in places]
    told = []
    for word, name in sensors:
        if word == "bell":
            told.append(name in lit)
        elif word == "lamp":
            told.append(house.number_of_part(name) in spots)
        else:
            told.append(row[2][house.number_of_cell(name)])
    return tuple(told)


def lot_done(world, standing, what):
    """The standing behind a what, any number of guests of each kind, and its harm; None if it can't be done.

    Here a step that changes nothing can be done, too.
    """
    caps = any_number(world)
    if what == HAND:
        return hand_move(world, caps, standing)
    row, places, hand = standing
    place, is_left = what[1], what[2]
    if place not in places or is_left and place == first_place(place[0]):
        return None
    told = step(world.house, world.kinds, row, place)
    if told is None:
        return None
    after, to, harm = told
    if harm is not None:
        return standing, harm
    return (after, come_to(caps, gone_from(places, place) if is_left else places, to), hand), None


def _sort_of(world, story):
    """What each thing of any value tells that may be a story by lots or by numbers, and whether it is one by lots."""
    if not is_sequence(story):
        raise InvalidStory(-1)
    is_lots = len(story) > 0 and is_what(world, story[0])
    told = []
    for at, thing in enumerate(story):
        if is_lots:
            one = thing if is_what(world, thing) else None
        else:
            one = event_told(world, thing)
        if one is None:
            raise InvalidStory(at)
        told.append(one)
    return told, is_lots


def _place_of(standing, told, is_lots):
    """The place from which somebody steps by a thing of a story that has been done, None if nobody does."""
    if told[0] != "step":
        return None
    return told[1] if is_lots else standing[1][told[1]]


def _door_of(world, place):
    """The name of the door through which the step of those at a place goes, None if it goes through none."""
    if place is None:
        return None
    row = world.kinds[place[0]].rows[place[1]]
    return row[1] if row[0] == "go" else None


def log_told(world, sensors, story):
    """The log of a story by lots or by numbers."""
    check_sensors(world.house, sensors)
    things, is_lots = _sort_of(world, story)
    standing = first_standing(world, any_number(world)) if is_lots else first_stage(world)
    lit = {}
    log = []
    for at, told in enumerate(things):
        done = lot_done(world, standing, told) if is_lots else event_done(world, standing, told)
        if done is None or done[1] is not None:
            raise Refused(at)
        door = _door_of(world, _place_of(standing, told, is_lots))
        if door is not None:
            lit[door] = True
        if told[0] == "hand":
            log.append(entry_at(world.house, sensors, standing, lit))
            lit = {}
        standing = done[0]
    return (*log, entry_at(world.house, sensors, standing, lit))


def _group_numbers(house, doors):
    """For the yard, and then for each part, the number of its group, numbered by their first ones."""
    names = ["out", *house.parts]
    groups = list(range(len(names)))
    for name, one, other, _ in house.doors:
        if name in doors:
            continue
        joined = (groups[names.index(one)], groups[names.index(other)])
        groups = [min(joined) if group in joined else group for group in groups]
    firsts = sorted(set(groups))
    return [firsts.index(group) for group in groups]


def _check_doors(house, doors):
    """The errors of any value that may be a row of doors."""
    if not is_sequence(doors):
        raise InvalidLot(-1)
    for at, name in enumerate(doors):
        if not isinstance(name, str) or name in doors[:at]:
            raise InvalidLot(at)
    for name in doors:
        house.number_of_door(name)


def tally_groups(house, doors):
    """The lots of parts that hang together by doors other than these."""
    _check_doors(house, doors)
    numbers = _group_numbers(house, doors)
    groups = [[] for _ in range(max(numbers) + 1)]
    for name, number in zip(("out", *house.parts), numbers):
        groups[number].append(name)
    return tuple([tuple(group) for group in groups])


def _is_count(value):
    """Whether any value is a pair of numbers."""
    return isinstance(value, tuple) and len(value) == 2 and is_number(value[0]) and is_number(value[1])


def _walks(house, doors, counts):
    """What has been counted: triples (group, group, how many went from the one to the other)."""
    numbers = _group_numbers(house, doors)
    walks = []
    for name, (there, back) in zip(doors, counts):
        one, other = house.ends[house.number_of_door(name)]
        walks.append((numbers[one + 1], numbers[other + 1], there))
        walks.append((numbers[other + 1], numbers[one + 1], back))
    return [walk for walk in walks if walk[2] > 0]


def _are_come_to(walks):
    """Whether each group from which somebody went is come to from that of the yard."""
    met = [0]
    at = 0
    while at < len(met):
        for one, other, _ in walks:
            if one == met[at] and other not in met:
                met.append(other)
        at += 1
    return all([one in met for one, _, _ in walks])


def tallied(house, doors, counts):
    """For each group how many are in it, None for the yard's; None if no walkers make these counts."""
    _check_doors(house, doors)
    if not is_sequence(counts) or len(counts) != len(doors) or not all([_is_count(pair) for pair in counts]):
        raise InvalidSize("counts")
    walks = _walks(house, doors, counts)
    sums = [0] * (max(_group_numbers(house, doors)) + 1)
    for one, other, many in walks:
        sums[one] -= many
        sums[other] += many
    if min([0, *sums[1:]]) < 0 or not _are_come_to(walks):
        return None
    return (None, *sums[1:])
