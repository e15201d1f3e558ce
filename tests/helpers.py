"""What the tests share."""

from lightsout.errors import LightError, NoName
from lightsout.guests import Kind
from lightsout.house import House
from lightsout.plans import Plan, World

HOUSE = House(["p", "q"], [("d", "out", "p", True), ("e", "p", "q", False)], [("c", "p", False), ("k", "q", True)])
KIND = Kind("k", [("go", "d")])
NESTED = [[[[[[[[1]]]]]]]]
# Some of everything that "any value" may be.
VALUES = [None, True, False, 0, 1, 2, -1, -2, 7, 10 ** 20, "", " ", "a", "p", "out", "P", "p1", "abcdefghi", "\u00e4",
          "p q", "go", (), [], (1,), [1], ("p",), (None,), (True, False), [[]], ((), ()), NESTED, HOUSE, KIND, [KIND],
          Plan([]), World(HOUSE, [KIND], Plan([])), ("a", ["b", ("c", None)])]


def raised(call, *told, **named):
    """The name of the error that a call raises and its arguments; None if it raises none."""
    try:
        call(*told, **named)
    except (LightError, NoName) as error:
        return (type(error).__name__, *vars(error).values())
    return None


def places(world_or_house):
    """All parts and the yard, by number."""
    return range(-1, len(world_or_house.parts))
