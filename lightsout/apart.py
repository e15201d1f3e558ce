"""Kinds that a house parts, and kinds that none does."""

from lightsout.basics import labels_to_last, search
from lightsout.errors import InvalidSize
from lightsout.guests import CELL_WORDS, DOOR_WORDS
from lightsout.house import MOST_CELLS, House
from lightsout.programs import REST, answers_of, deed_from, next_deed, pair_key, pocket_behind

MOST_KNOWN = 3
LETTERS = "abcdefghijklmnopqrstuvwxyz"
# Nobody has gone anywhere, and nothing is known of any house; known: doors, cells, how many parts.
FIRST = (0, 0, None, -1, ((), (), 0))


def _names_of(kinds, words):
    """The names that the rows with some words tell, ascending."""
    return sorted({row[1] for kind in kinds for row in kind.rows if row[0] in words})


def _check_sizes(kind, other):
    """InvalidSize for too many cells, or a name of a door and of a cell."""
    doors = _names_of([kind, other], DOOR_WORDS)
    cells = _names_of([kind, other], CELL_WORDS)
    if len(cells) > MOST_CELLS:
        raise InvalidSize("cells")
    if any([name in doors for name in cells]):
        raise InvalidSize("names")


def _spots_from(first, many):
    """The numbers of parts that an end may have, from a number on: what is known, and the next one."""
    return list(range(first, min(many + 1, MOST_KNOWN)))


def _with_door(known, name):
    """All that may be known behind it, when the ends of a door are asked."""
    doors, cells, many = known
    if name in [door[0] for door in doors]:
        return [known]
    found = []
    for one in _spots_from(-1, many):
        for other in _spots_from(one + 1, max(many, one + 1)):
            found.append((tuple(sorted([*doors, (name, one, other)])), cells, max(many, one + 1, other + 1)))
    return found


def _with_cell(known, name):
    """All that may be known behind it, when the part of a cell is asked."""
    doors, cells, many = known
    if name in [cell[0] for cell in cells]:
        return [known]
    return [(doors, tuple(sorted([*cells, (name, part)])), max(many, part + 1)) for part in _spots_from(0, many)]


def _with_told(known, told):
    """All that may be known behind it, when a deed is to be done."""
    if told[0] in DOOR_WORDS:
        return _with_door(known, told[1])
    if told[0] in CELL_WORDS and told[0] != "use":
        return _with_cell(known, told[1])
    return [known]


def _where_behind(known, where, told):
    """Where a deed leads a guest who stands somewhere, None if it counts as a rest there."""
    if told[0] in DOOR_WORDS:
        ends = [door[1:] for door in known[0] if door[0] == told[1]][0]
        if where not in ends:
            return None
        far = ends[1] if ends[0] == where else ends[0]
        return far if told[0] == "go" else where
    if told[0] in CELL_WORDS and told[0] != "use":
        return where if (told[1], where) in known[1] else None
    return None if told == REST else where


def _told_in(known, where, told):
    """The deed, or the rest as which it counts there."""
    return REST if _where_behind(known, where, told) is None else told


def _moves_of(kind, other):
    """The function that gives what stands behind a state of both in all houses, with ("apart", known) at the end."""
    def moves(state):
        """The pairs (answer, state)."""
        at, match, pocket, where, known = state
        told = deed_from(kind, at, pocket)
        also = deed_from(other, match, pocket)
        found = []
        for more in [last for mid in _with_told(known, told) for last in _with_told(mid, also)]:
            done = _told_in(more, where, told)
            if done != _told_in(more, where, also):
                return [(None, ("apart", more))]
            for answer in answers_of(done):
                rows = (next_deed(kind, at, pocket) + 1, next_deed(other, match, pocket) + 1)
                pair = (*rows, pocket_behind(done, pocket, answer))
                found.append((answer, (*pair, _where_behind(more, where, done), more)))
        return found

    return moves


def _is_apart(state):
    """Whether the deeds of both are unlike in some house."""
    return state[0] == "apart"


def _walk(kind, other):
    """What is met in all houses, up to the first house in which the deeds are unlike."""
    _check_sizes(kind, other)
    return search(FIRST, _moves_of(kind, other), _is_apart)


def _house_of(known, kind, other):
    """A house with all doors and cells of both, in which what is known is so."""
    doors = _names_of([kind, other], DOOR_WORDS)
    cells = _names_of([kind, other], CELL_WORDS)
    parts = [sign for sign in LETTERS if sign not in doors + cells][:known[2]]
    # The number -1 of the yard is that of the last name here.
    spots = [*parts, "out"]
    ends = {name: (spots[one], spots[two]) for name, one, two in known[0]}
    rooms = {name: spots[part] for name, part in known[1]}
    rows = [(name, *ends.get(name, ("out", parts[0])), True) for name in doors]
    return House(parts, rows, [(name, rooms.get(name, parts[0]), False) for name in cells])


def house_apart(kind, other):
    """Some house and answers behind which the deeds of both are unlike there, None if there are none."""
    met = _walk(kind, other)
    last = met[-1][0]
    if not _is_apart(last):
        return None
    return _house_of(last[1], kind, other), labels_to_last(met)[:-1]


def _known_of(house):
    """What is known of a whole house."""
    doors = [(door[0], *sorted(ends)) for door, ends in zip(house.doors, house.ends)]
    cells = [(cell[0], part) for cell, part in zip(house.cells, house.cell_parts)]
    return tuple(doors), tuple(cells), len(house.parts)


def is_apart(kind, other, house, answers):
    """Whether both do the same deeds along the answers in a house, and unlike ones behind."""
    known = _known_of(house)
    moves = _moves_of(kind, other)
    state = (0, 0, None, -1, known)
    for answer in answers:
        behind = [after for label, after in moves(state) if label == answer and not _is_apart(after)]
        if not behind:
            return False
        state = behind[0]
    return any([_is_apart(after) for _, after in moves(state)])


def alike_lot(kind, other):
    """The paper that no house parts two kinds: all that comes of both in all houses, None if one does."""
    met = _walk(kind, other)
    if _is_apart(met[-1][0]):
        return None
    return tuple(sorted([entry[0] for entry in met], key=pair_key))
