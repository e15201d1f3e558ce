"""Plans of the hands, what each deed does, and worlds."""

from lightsout.basics import is_name, is_sequence, replaced
from lightsout.errors import InvalidGuest, InvalidHouse, InvalidPlan, InvalidText
from lightsout.guests import Kind, check_names
from lightsout.house import House, turned

DOOR_DEEDS = ("shut", "open")
PART_DEEDS = ("drain", "off", "on")
CELL_DEEDS = ("save", "load")


def _is_deed(value):
    """Whether any value is a pair of a deed's word and a name."""
    if not is_sequence(value) or len(value) != 2 or not isinstance(value[0], str):
        return False
    return value[0] in DOOR_DEEDS + PART_DEEDS + CELL_DEEDS and is_name(value[1])


def _read_deeds(rows, first):
    """The deeds that the rows of a text tell, the first of which has this number in the text."""
    deeds = []
    for at, row in enumerate(rows):
        told = row.split(" ")
        if not _is_deed(told):
            raise InvalidText(first + at)
        deeds.append(told)
    return deeds


class Plan:
    """A row of deeds."""

    def __init__(self, deeds):
        if not is_sequence(deeds):
            raise InvalidPlan(-1)
        for at, told in enumerate(deeds):
            if not _is_deed(told):
                raise InvalidPlan(at)
        self.deeds = tuple([tuple(told) for told in deeds])

    def __eq__(self, other):
        return isinstance(other, Plan) and self.deeds == other.deeds

    @staticmethod
    def read(text):
        """The plan with a text."""
        if not isinstance(text, str):
            raise InvalidText(0)
        return Plan(_read_deeds(text.split("\n") if text else [], 0))

    def text(self):
        """A row for each deed."""
        return "\n".join([" ".join(told) for told in self.deeds])


def asked_empty(told):
    """The part in which nobody may be at a deed, or None."""
    return told[1] if told[0] in ("drain", "off") else None


def check_deeds(house, deeds):
    """NoName for the first door, part or cell of deeds that the house has not."""
    for told in deeds:
        _number_of(house, told)


def is_deed_of(house, value):
    """Whether any value is a deed, as a tuple, of something that a house has."""
    if not isinstance(value, tuple) or not _is_deed(value):
        return False
    if value[0] in DOOR_DEEDS:
        return value[1] in [door[0] for door in house.doors]
    return value[1] in (house.parts if value[0] in PART_DEEDS else [cell[0] for cell in house.cells])


def _number_of(house, told):
    """The number of the door, the part or the cell that a deed tells."""
    if told[0] in DOOR_DEEDS:
        return house.number_of_door(told[1])
    if told[0] in PART_DEEDS:
        return house.number_of_part(told[1])
    return house.number_of_cell(told[1])


def _put_off(house, row, part):
    """The house row when the light of a part has gone off."""
    doors, lights, worth, saved, tales = row
    for cell in _lost_cells(house, part):
        worth = replaced(worth, cell, 0)
        if tales[cell] in (1, 2):
            tales = replaced(tales, cell, tales[cell] + 2)
    return doors, replaced(lights, part, False), worth, saved, tales


def _lost_cells(house, part):
    """The cells of a part that are not kept."""
    return [cell for cell in house.cells_in(part) if not house.kept[cell]]


def _aged(places, cells):
    """The places with the pockets of these cells old."""
    aged = []
    for place in places:
        pocket = place[3]
        if pocket is None or pocket[0] not in cells:
            aged.append(place)
        else:
            aged.append((*place[:3], (pocket[0], pocket[1], True)))
    return tuple(aged)


def _load(row, cell):
    """The house row when a cell has got what is saved of it."""
    doors, lights, worth, saved, tales = row
    value = saved[cell]
    stands = value > 0 and tales[cell] in (value, value + 2)
    if tales[cell] < 3 or stands:
        tales = replaced(tales, cell, value if stands else 0)
    return doors, lights, replaced(worth, cell, value), saved, tales


def _change(house, row, told, number):
    """The house row behind a deed that is no drain and no off."""
    doors, lights, worth, saved, tales = row
    if told[0] in DOOR_DEEDS:
        return turned(row, number, told[0] == "open")
    if told[0] == "on":
        return doors, replaced(lights, number, True), worth, saved, tales
    if not lights[house.cell_parts[number]]:
        return row
    if told[0] == "save":
        return doors, lights, worth, replaced(saved, number, worth[number]), tales
    return _load(row, number)


def deed(house, row, places, told):
    """House row, places and harm behind a deed; None if it can't be done now."""
    number = _number_of(house, told)
    same = tuple(places)
    if asked_empty(told) is None:
        return _change(house, row, told, number), same, None
    is_taken = number in [place[2] for place in same]
    if told[0] == "drain":
        return None if is_taken else (row, same, None)
    if not row[1][number]:
        return row, same, None
    if is_taken:
        return row, same, ("inside", told[1])
    return _put_off(house, row, number), _aged(same, _lost_cells(house, number)), None


def _checked_kinds(kinds):
    """The kinds as a tuple."""
    if not is_sequence(kinds):
        raise InvalidGuest(-1)
    names = []
    for at, kind in enumerate(kinds):
        if not isinstance(kind, Kind) or kind.name in names:
            raise InvalidGuest(at)
        names.append(kind.name)
    return tuple(kinds)


def _read_kinds(rows):
    """The kinds that rows of a text tell; each begins with a row that begins so."""
    begins = [at for at, row in enumerate(rows) if row.startswith("kind ")]
    ends = begins[1:] + [len(rows)]
    return [Kind.read("\n".join(rows[begin:end])) for begin, end in zip(begins, ends)]


class World:
    """A house, kinds of guests, and a plan."""

    def __init__(self, house, kinds, plan):
        if not isinstance(house, House):
            raise InvalidHouse(-1)
        self.house = house
        self.kinds = _checked_kinds(kinds)
        if not isinstance(plan, Plan):
            raise InvalidPlan(-1)
        self.plan = plan
        check_names(house, self.kinds)
        check_deeds(house, plan.deeds)

    def __eq__(self, other):
        return isinstance(other, World) and self.text() == other.text()

    @staticmethod
    def read(text):
        """The world with a text."""
        if not isinstance(text, str):
            raise InvalidText(0)
        rows = text.split("\n")
        if "plan" not in rows:
            raise InvalidText(len(rows))
        last = rows.index("plan")
        first = min([at for at in range(last + 1) if at == last or rows[at].startswith("kind ")])
        house = House.read("\n".join(rows[:first]))
        kinds = _read_kinds(rows[first:last])
        return World(house, kinds, Plan(_read_deeds(rows[last + 1:], last + 1)))

    def text(self):
        """The texts of the house, of the kinds and of the plan, one behind another."""
        rows = [self.house.text(), *[kind.text() for kind in self.kinds], "plan"]
        if self.plan.deeds:
            rows.append(self.plan.text())
        return "\n".join(rows)

    def with_plan(self, deeds):
        """The world with other deeds."""
        return World(self.house, self.kinds, Plan(deeds))

    def with_house(self, house):
        """The world with another house."""
        return World(house, self.kinds, self.plan)


def hand_deed(world, row, places, hand):
    """What `deed` tells of the next deed when so many are done; None if there is none, too."""
    if hand == len(world.plan.deeds):
        return None
    return deed(world.house, row, places, world.plan.deeds[hand])
