"""Houses: parts, doors and cells, and the rows that tell how they stand."""

from lightsout.basics import is_integer, is_name, is_sequence, replaced
from lightsout.errors import InvalidHouse, InvalidText, NoName

MOST_PARTS = 8
MOST_DOORS = 12
MOST_CELLS = 8


def _checked_parts(parts):
    """The parts as a tuple."""
    if not is_sequence(parts) or not parts:
        raise InvalidHouse(0)
    for at, name in enumerate(parts):
        if at >= MOST_PARTS or not is_name(name) or name in parts[:at]:
            raise InvalidHouse(at)
    return tuple(parts)


def _is_door(door, parts):
    """Whether any value is a door between these parts and the yard."""
    if not is_sequence(door) or len(door) != 4:
        return False
    name, one, other, is_open = door
    ends = (*parts, "out")
    return is_name(name) and one in ends and other in ends and one != other and isinstance(is_open, bool)


def _is_cell(cell, parts):
    """Whether any value is a cell in one of these parts."""
    if not is_sequence(cell) or len(cell) != 3:
        return False
    return is_name(cell[0]) and cell[1] in parts and isinstance(cell[2], bool)


def _checked_things(things, most, parts, taken, is_thing):
    """Doors or cells as tuples; `taken` are the names of all that stand ahead."""
    names = list(taken)
    if not is_sequence(things):
        raise InvalidHouse(len(names))
    for at, thing in enumerate(things):
        if at >= most or not is_thing(thing, parts) or thing[0] in names:
            raise InvalidHouse(len(names))
        names.append(thing[0])
    return tuple([tuple(thing) for thing in things])


def _numbers(names):
    """The number of each name."""
    return {name: at for at, name in enumerate(names)}


def _number_of(numbers, name):
    """The number of a name among these."""
    if not isinstance(name, str) or name not in numbers:
        raise NoName(name)
    return numbers[name]


def _thing_of(row):
    """The thing that a row of a text tells: its rank and itself; None if it tells none."""
    words = row.split(" ")
    if words[0] == "part" and len(words) == 2:
        return 0, words[1]
    if words[0] == "door" and len(words) == 5 and words[4] in ("open", "shut"):
        return 1, (words[1], words[2], words[3], words[4] == "open")
    if words[0] == "cell" and len(words) == 3:
        return 2, (words[1], words[2], False)
    if words[0] == "cell" and len(words) == 4 and words[3] == "kept":
        return 2, (words[1], words[2], True)
    return None


class House:
    """Parts, doors between them and the yard, and cells in the parts."""

    def __init__(self, parts, doors, cells):
        self.parts = _checked_parts(parts)
        self.doors = _checked_things(doors, MOST_DOORS, self.parts, self.parts, _is_door)
        taken = [*self.parts, *[door[0] for door in self.doors]]
        self.cells = _checked_things(cells, MOST_CELLS, self.parts, taken, _is_cell)
        self._part_numbers = _numbers(self.parts)
        self._door_numbers = _numbers([door[0] for door in self.doors])
        self._cell_numbers = _numbers([cell[0] for cell in self.cells])
        self.ends = tuple([(self.number_of_part(door[1]), self.number_of_part(door[2])) for door in self.doors])
        self.cell_parts = tuple([self.number_of_part(cell[1]) for cell in self.cells])
        self.kept = tuple([cell[2] for cell in self.cells])

    def __eq__(self, other):
        if not isinstance(other, House):
            return False
        return self.parts == other.parts and self.doors == other.doors and self.cells == other.cells

    @staticmethod
    def read(text):
        """The house with a text."""
        if not isinstance(text, str):
            raise InvalidText(0)
        things = [[], [], []]
        last = 0
        for at, row in enumerate(text.split("\n")):
            told = _thing_of(row)
            if told is None or told[0] < last:
                raise InvalidText(at)
            last = told[0]
            things[last].append(told[1])
        return House(things[0], things[1], things[2])

    def text(self):
        """A row for each part, door and cell."""
        rows = ["part " + name for name in self.parts]
        for name, one, other, is_open in self.doors:
            rows.append(" ".join(["door", name, one, other, "open" if is_open else "shut"]))
        for name, part, is_kept in self.cells:
            rows.append(" ".join(["cell", name, part] + (["kept"] if is_kept else [])))
        return "\n".join(rows)

    def number_of_part(self, name):
        """The number of a part, -1 for the yard."""
        if isinstance(name, str) and name == "out":
            return -1
        return _number_of(self._part_numbers, name)

    def number_of_door(self, name):
        """The number of a door."""
        return _number_of(self._door_numbers, name)

    def number_of_cell(self, name):
        """The number of a cell."""
        return _number_of(self._cell_numbers, name)

    def far_end(self, door, spot):
        """The other end of a door, None if the spot is at neither."""
        one, other = self.ends[door]
        if spot == one:
            return other
        if spot == other:
            return one
        return None

    def doors_at(self, spot):
        """The doors that have an end at a spot."""
        return tuple([door for door, ends in enumerate(self.ends) if spot in ends])

    def cells_in(self, spot):
        """The cells in a part."""
        return tuple([cell for cell, part in enumerate(self.cell_parts) if part == spot])

    def with_kept(self, names):
        """The house in which just these cells are kept."""
        kept = [self.number_of_cell(name) for name in names]
        cells = [(name, part, at in kept) for at, (name, part, _) in enumerate(self.cells)]
        return House(self.parts, self.doors, cells)


def first_row(house):
    """The house row at first."""
    nothing = (0,) * len(house.cells)
    return tuple([door[3] for door in house.doors]), (True,) * len(house.parts), nothing, nothing, nothing


def _are_bools(row, many):
    """Whether any value is a tuple of so many bools."""
    return isinstance(row, tuple) and len(row) == many and all([isinstance(item, bool) for item in row])


def _are_values(row, many, most):
    """Whether any value is a tuple of so many numbers up to one."""
    if not isinstance(row, tuple) or len(row) != many:
        return False
    return all([is_integer(item) and 0 <= item <= most for item in row])


def is_row(house, value):
    """Whether any value has the form of a row of this house."""
    if not isinstance(value, tuple) or len(value) != 5:
        return False
    doors, lights, worth, saved, told = value
    many = len(house.cells)
    return (_are_bools(doors, len(house.doors)) and _are_bools(lights, len(house.parts))
            and _are_values(worth, many, 2) and _are_values(saved, many, 2) and _are_values(told, many, 4))


def turned(row, door, is_open):
    """The house row with a door open, or shut."""
    return (replaced(row[0], door, is_open), *row[1:])


def part_named(house, name):
    """The number of a part, for any value but its name NoName."""
    if not isinstance(name, str) or name not in house.parts:
        raise NoName(name)
    return house.parts.index(name)
