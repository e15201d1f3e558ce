"""What the tests of worlds share: all that comes, told slowly, word by word as DOC.md has it."""

from itertools import product

from lightsout.guests import Kind, first_place, place_key, placed, step
from lightsout.house import House, first_row
from lightsout.lots import Lots, guest_moves
from lightsout.plans import Plan, World, deed


def large_world(deeds):
    """Guests alone come to just 1,000 standings, whatever deeds of this sort are done."""
    return World.read("part p\ndoor d out p open\ncell c p\ncell e p\nkind a\ngo d\nsee c\nset c 1\nsee c\ntell c\nset e 2\n"
                      "kind b\ngo d\nset c 1\nplan" + "\non p" * deeds)


class TooMuch(Exception):
    """More comes than a slow search goes through."""


def none_of(world):
    """Caps by which any number of guests come."""
    return (None,) * len(world.kinds)


def all_harms(world):
    """All harms that events can do."""
    parts, cells = world.house.parts, [cell[0] for cell in world.house.cells]
    return [*product(("inside", "dark"), parts), *product(("stale", "lost"), cells)]


def come(world, caps=None, bound=5000):
    """The harms that come by lots."""
    return set(Lots(world, caps or none_of(world), bound).harms)


def shown(world, row, place):
    """The word of a trace that the step of a guest shows."""
    told = world.kinds[place[0]].rows[place[1]]
    if told[0] != "see":
        return str(place[1])
    return f"{place[1]}:{row[2][world.house.number_of_cell(told[1])]}"


def first_sight(world, kind):
    return first_row(world.house), tuple(first_place(at) for at in range(len(world.kinds))), 0, first_place(kind)


def unseen(world, sight):
    """What unseen steps lead to from a sight."""
    row, places, hand, place = sight
    for _, after, lot, harm in guest_moves(world.house, world.kinds, none_of(world), row, places):
        if harm is None:
            yield after, lot, hand, place
    if hand < len(world.plan.deeds):
        told = deed(world.house, row, (*places, place), world.plan.deeds[hand])
        if told is not None and told[2] is None:
            yield told[0], placed(dict.fromkeys(told[1][:-1])), hand + 1, told[1][-1]


def seen(world, sight):
    """The word that the watched one's step shows, and what it leads to; None if he has none without a harm."""
    row, places, hand, place = sight
    told = step(world.house, world.kinds, row, place)
    if told is None or told[2] is not None:
        return None
    return shown(world, row, place), (told[0], places, hand, told[1])


def due(world, sights, most=10 ** 9):
    """The sights and all that unseen steps lead to from them."""
    met = dict.fromkeys(sights)
    left = list(met)
    while left:
        for sight in unseen(world, left.pop()):
            if sight not in met:
                met[sight] = None
                left.append(sight)
                if len(met) > most:
                    raise TooMuch
    return met


def after(world, sights, word):
    """What seen steps lead to that show a word."""
    told = [seen(world, sight) for sight in sights]
    return dict.fromkeys(one[1] for one in told if one is not None and one[0] == word)


def words_from(world, sights):
    """The words that seen steps show."""
    told = [seen(world, sight) for sight in sights]
    return sorted({one[0] for one in told if one is not None})


def is_idle(world, place):
    rows = world.kinds[place[0]].rows
    met, left = set(), [place[1]]
    while left:
        at = left.pop()
        if at in met or at >= len(rows):
            continue
        met.add(at)
        told = rows[at]
        if told[0] in ("set", "tell", "shut", "open"):
            return False
        if told[0] in ("when", "again"):
            left.append(told[-1])
        if told[0] not in ("again", "rest"):
            left.append(at + 1)
    return True


def is_behind(world, one, other):
    """Whether one sight is behind another one ([61])."""
    if (one[0], one[2:]) != (other[0], other[2:]):
        return False
    if any(place not in other[1] and not is_idle(world, place) for place in one[1]):
        return False
    asked = {name for word, name in world.plan.deeds[one[2]:] if word in ("drain", "off")}
    spots = [*world.house.parts, "out"]
    return not any(place not in one[1] and spots[place[2]] in asked for place in other[1])


def is_behind_one(world, sight, row):
    return any(is_behind(world, sight, other) for other in row)


def in_order(standings):
    """Standings, watched or not, each once, as they are ordered."""
    def key(standing):
        return (standing[0], [place_key(place) for place in standing[1]], *standing[2:])
    return tuple(sorted(set(standings), key=key))


def teller(chance, cells=2, rows=9):
    """A small world in which somebody may tell that lights went off."""
    told = [(name, "p", False) for name in "cms"[:chance.randrange(1, cells + 1)]]
    names = [cell[0] for cell in told]
    one, other = chance.choice(names), chance.choice(names)
    base = chance.randrange(3)
    if base == 0:
        read = [("go", "d"), ("see", one), ("go", "d"), ("go", "d"), ("see", other)]
        write = [("go", "d"), ("set", one, 1), ("go", "d")]
    elif base == 1:
        read = [("go", "d"), ("see", one), ("see", other)]
        write = [("go", "d"), ("set", other, 1), ("set", one, 1), ("go", "d")]
    else:
        read = [("go", "d"), ("set", one, 1), ("go", "d"), ("go", "d"), ("see", other)]
        write = []
    while len(write) + len(read) < rows and len(read) < 6 and chance.random() < 0.5:
        more = chance.choice([("see", one), ("see", other), ("wait", one, 1), ("tell", one), ("use", one), ("when", 1, 2)])
        read.insert(chance.randrange(1, len(read) + 1), more)
    while write and len(write) + len(read) < rows and len(write) < 6 and chance.random() < 0.5:
        more = chance.choice([("see", one), ("set", other, chance.randrange(3)), ("tell", one)])
        write.insert(chance.randrange(1, len(write)), more)
    kinds = [Kind(name, own) for name, own in (("w", write), ("r", read)) if own]
    if chance.random() < 0.3:
        kinds = kinds[::-1]
    dark = [("off", "p"), ("on", "p")]
    plan = chance.choice([[("drain", "p"), *dark], [("drain", "p"), ("save", one), *dark, ("load", one)], dark,
                          [("drain", "p"), *dark] * 2, [("off", "p"), ("save", one), ("on", "p"), ("load", one)]])
    return World(House(["p"], [("d", "out", "p", True)], told), kinds, Plan(plan))


def mutated(chance, value):
    """A nested tuple with something in it left out, told twice, or exchanged."""
    if not isinstance(value, tuple) or not value:
        return value
    if chance.random() < 0.35 or not any(isinstance(part, tuple) for part in value):
        at, to = chance.randrange(len(value)), chance.randrange(len(value))
        word = chance.randrange(3)
        if word == 0:
            return value[:at] + value[at + 1:]
        if word == 1:
            return value[:at] + (value[at],) + value[at:]
        parts = list(value)
        parts[at], parts[to] = parts[to], parts[at]
        return tuple(parts)
    within = [at for at, part in enumerate(value) if isinstance(part, tuple) and part]
    if not within:
        return value
    at = chance.choice(within)
    return value[:at] + (mutated(chance, value[at]),) + value[at + 1:]
