"""What the tests share."""

from lightsout.errors import LightError, NoName
from lightsout.guests import Kind
from lightsout.house import House
from lightsout.plans import Plan, World

HOUSE = House(["p", "q"], [("d", "out", "p", True), ("e", "p", "q", False)], [("c", "p", False), ("k", "q", True)])
KIND = Kind("k", [("go", "d")])
NESTED = [[[[[[[[1]]]]]]]]
# Some of everything that "any value" may be.
VALUES = [None, True, False, 0, 1, 2, -1, -2, 7, 10 ** 20, "", " ", "a", "p", "out", "P", "p1", "abcdefghi", "\u00e4",
          "p q", "go", (), [], (1,), [1], ("p",), (None,), (True, False), [[]], ((), ()), NESTED, HOUSE, KIND, [KIND],
          Plan([]), World(HOUSE, [KIND], Plan([])), ("a", ["b", ("c", None)])]


def raised(call, *told, **named):
    """The name of the error that a call raises and its arguments; None if it raises none."""
    try:
        call(*told, **named)
    except (LightError, NoName) as error:
        return (type(error).__name__, *vars(error).values())
    return None


def places(world_or_house):
    """All parts and the yard, by number."""
    return range(-1, len(world_or_house.parts))


def _random_row(chance, doors, cells, many):
    word = chance.choice("go go go go shut open see see set wait tell use when again rest".split())
    if word in ("go", "shut", "open"):
        return word, chance.choice(doors)
    if word in ("see", "tell", "use"):
        return word, chance.choice(cells)
    if word in ("set", "wait"):
        return word, chance.choice(cells), chance.randrange(3)
    if word == "when":
        return word, chance.randrange(3), chance.randrange(many + 1)
    return (word, chance.randrange(many + 1)) if word == "again" else (word,)


def random_world(chance, kinds=2, rows=4, deeds=4):
    """A small world: one or two parts, two or three doors, one or two cells; some guests go in at once."""
    parts = ["p", "q"][:chance.choice([1, 2, 2])]
    ends = ["out", *parts]
    doors = [("d", "out", "p", True)]
    for name in "ef"[:chance.randrange(1, 3)]:
        one, other = chance.sample(ends, 2)
        doors.append((name, one, other, chance.random() < 0.7))
    cells = [(name, chance.choice(parts), chance.random() < 0.4) for name in "cm"[:chance.randrange(1, 3)]]
    names, told = [door[0] for door in doors], [cell[0] for cell in cells]
    made = []
    for name in "ab"[:kinds]:
        many = chance.randrange(2, rows + 1)
        own = [_random_row(chance, names, told, many) for _ in range(many)]
        made.append(Kind(name, [("go", "d"), *own[1:]] if chance.random() < 0.8 else own))
    plan = []
    for _ in range(chance.randrange(deeds + 1)):
        word = chance.choice("shut open drain drain off off on save load".split())
        asked = {"shut": names, "open": names, "save": told, "load": told}.get(word, parts)
        plan.append((word, chance.choice(asked)))
    return World(House(parts, doors, cells), made, Plan(plan))


def bent(value):
    """Values like this one with one number, bool or None in it bent into another kind or another number."""
    if isinstance(value, (tuple, list)):
        for at, part in enumerate(value):
            for other in bent(part):
                yield type(value)([*value[:at], other, *value[at + 1:]])
        yield type(value)([*value, None])
        yield type(value)(value[:-1]) if value else (0,)
        yield list(value) if isinstance(value, tuple) else tuple(value)
    elif isinstance(value, bool):
        yield int(value)
    elif isinstance(value, int):
        yield bool(value) if value in (0, 1) else value + 100
        yield value + 1000
        yield None
    elif value is None:
        yield False
        yield ()
    elif isinstance(value, str):
        yield value + " "
        yield None
