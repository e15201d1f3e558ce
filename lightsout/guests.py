"""Guests: their kinds, their places, and what each row of a program does."""

from lightsout.basics import is_below, is_integer, is_name, is_sequence, replaced
from lightsout.errors import InvalidGuest, InvalidText
from lightsout.house import turned

MOST_ROWS = 6
DOOR_WORDS = ("go", "shut", "open")
CELL_WORDS = ("see", "set", "wait", "tell", "use")
# n: a name, v: a value, r: the number of a row, or of none behind the last one.
FORMS = {
    "go": "n", "shut": "n", "open": "n", "see": "n", "set": "nv", "wait": "nv", "tell": "n", "use": "n",
    "when": "vr", "again": "r", "rest": "",
}


def _fits(sign, value, many):
    """Whether any value is what a sign of FORMS asks for in a program of so many rows."""
    if sign == "n":
        return is_name(value)
    if sign == "v":
        return is_below(value, 3)
    return is_below(value, many + 1)


def is_program_row(row, many):
    """Whether any value is a row of a program of so many rows."""
    if not is_sequence(row) or not row or not isinstance(row[0], str) or row[0] not in FORMS:
        return False
    form = FORMS[row[0]]
    return len(row) == 1 + len(form) and all([_fits(sign, row[at + 1], many) for at, sign in enumerate(form)])


def _word_of(part):
    """What a part of a row's text tells: a number, if it is one figure."""
    if len(part) == 1 and "0" <= part <= "9":
        return int(part)
    return part


def _row_of(line):
    """The row that a line tells, well formed or not."""
    parts = line.split(" ")
    return (parts[0], *[_word_of(part) for part in parts[1:]])


class Kind:
    """A name, and the rows of the program of all guests of this kind."""

    def __init__(self, name, rows):
        if not is_name(name) or not is_sequence(rows) or not 1 <= len(rows) <= MOST_ROWS:
            raise InvalidGuest(-1)
        for at, row in enumerate(rows):
            if not is_program_row(row, len(rows)):
                raise InvalidGuest(at)
        self.name = name
        self.rows = tuple([tuple(row) for row in rows])

    def __eq__(self, other):
        return isinstance(other, Kind) and self.name == other.name and self.rows == other.rows

    @staticmethod
    def read(text):
        """The kind with a text."""
        if not isinstance(text, str) or not text.startswith("kind "):
            raise InvalidText(0)
        lines = text.split("\n")
        return Kind(lines[0][len("kind "):], [_row_of(line) for line in lines[1:]])

    def text(self):
        """A line for the name, and one for each row."""
        lines = ["kind " + self.name]
        for row in self.rows:
            lines.append(" ".join([str(part) for part in row]))
        return "\n".join(lines)


def check_names(house, kinds):
    """NoName for the first door or cell, by kinds and rows, that the house has not."""
    for kind in kinds:
        for row in kind.rows:
            check_row(house, row)


def check_row(house, row):
    """NoName if a row tells a door or a cell that the house has not."""
    if row[0] in DOOR_WORDS:
        house.number_of_door(row[1])
    if row[0] in CELL_WORDS:
        house.number_of_cell(row[1])


def first_place(number):
    """The place at which the guests of a kind begin."""
    return number, 0, -1, None


def place_key(place):
    """What places are ordered by."""
    number, at, where, pocket = place
    return number, at, where, (-1, -1, False) if pocket is None else pocket


def placed(places):
    """The places in order, each as often as it is told."""
    return tuple(sorted(places, key=place_key))


def is_place(house, kinds, value):
    """Whether any value has the form of a place."""
    if not isinstance(value, tuple) or len(value) != 4:
        return False
    number, at, where, pocket = value
    if not is_below(number, len(kinds)) or not is_below(at, len(kinds[number].rows) + 1):
        return False
    return is_integer(where) and -1 <= where < len(house.parts) and is_pocket(house, pocket)


def is_pocket(house, value):
    """Whether any value is what a pocket may be."""
    if value is None:
        return True
    if not isinstance(value, tuple) or len(value) != 3:
        return False
    return is_below(value[0], len(house.cells)) and is_below(value[1], 3) and isinstance(value[2], bool)


def _go(house, row, place, told):
    door = house.number_of_door(told[1])
    if not row[0][door]:
        return None
    where = house.far_end(door, place[2])
    harm = None
    if where >= 0 and not row[1][where]:
        harm = ("dark", house.parts[where])
    return row, (place[0], place[1] + 1, where, place[3]), harm


def _turn(house, row, place, told):
    return turned(row, house.number_of_door(told[1]), told[0] == "open"), _next(place), None


def _next(place):
    """The place at the next row."""
    return place[0], place[1] + 1, place[2], place[3]


def _see(house, row, place, told):
    cell = house.number_of_cell(told[1])
    harm = ("lost", told[1]) if row[4][cell] > 2 else None
    return row, (place[0], place[1] + 1, place[2], (cell, row[2][cell], False)), harm


def _set(house, row, place, told):
    cell = house.number_of_cell(told[1])
    value = told[2]
    stands = value > 0 and row[4][cell] in (value, value + 2)
    doors, lights, worth, saved, tales = row
    tales = replaced(tales, cell, value if stands else 0)
    return (doors, lights, replaced(worth, cell, value), saved, tales), _next(place), None


def _wait(house, row, place, told):
    if row[2][house.number_of_cell(told[1])] != told[2]:
        return None
    return row, _next(place), None


def _tell(house, row, place, told):
    cell = house.number_of_cell(told[1])
    return (*row[:4], replaced(row[4], cell, row[2][cell])), _next(place), None


def _use(house, row, place, told):
    pocket = place[3]
    is_stale = pocket is not None and pocket[2] and pocket[0] == house.number_of_cell(told[1])
    return row, _next(place), ("stale", told[1]) if is_stale else None


def _when(house, row, place, told):
    pocket = place[3]
    if pocket is None or pocket[1] != told[1]:
        return row, _next(place), None
    return row, (place[0], told[2], place[2], pocket), None


def _again(house, row, place, told):
    return row, (place[0], told[1], place[2], place[3]), None


# Each takes the house, a house row, a place at which the row can be done, and the row.
ACTIONS = {
    "go": _go, "shut": _turn, "open": _turn, "see": _see, "set": _set, "wait": _wait, "tell": _tell, "use": _use,
    "when": _when, "again": _again,
}


def step(house, kinds, row, place):
    """The house row and the place behind a guest's step, and the harm; None if he has no step now."""
    if is_still(house, kinds, place):
        return None
    told = kinds[place[0]].rows[place[1]]
    action = ACTIONS[told[0]]
    return action(house, row, place, told)


def is_still(house, kinds, place):
    """Whether a guest at a place has no step in any house row."""
    rows = kinds[place[0]].rows
    if place[1] >= len(rows):
        return True
    told = rows[place[1]]
    if told[0] in DOOR_WORDS:
        return house.far_end(house.number_of_door(told[1]), place[2]) is None
    if told[0] in CELL_WORDS and told[0] != "use":
        return house.cell_parts[house.number_of_cell(told[1])] != place[2]
    return told[0] == "rest"
