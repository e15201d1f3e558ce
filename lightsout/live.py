"""Live worlds: what harms come and go as a world is changed, deed by deed."""

from lightsout.basics import is_below
from lightsout.errors import NoName, Refused
from lightsout.guests import Kind
from lightsout.house import House
from lightsout.lots import Lots, any_number
from lightsout.plans import World


def _harms_of(world):
    """All harms by events that can come with any number of guests, in order."""
    return tuple(sorted(Lots(world, any_number(world)).harms))


def _check_number(at, many):
    """Refused for any value that is no number below this one."""
    if not is_below(at, many):
        raise Refused(many - 1)


def _kind_named(world, name):
    """The number of a kind, for any value but its name NoName."""
    names = [kind.name for kind in world.kinds]
    if not isinstance(name, str) or name not in names:
        raise NoName(name)
    return names.index(name)


class Live:
    """A world that deeds change, and that can be taken back."""

    def __init__(self, world):
        self.world = world
        self.harms = _harms_of(world)
        self._past = ()

    @staticmethod
    def read(text):
        """The live world that begins with the world of a text."""
        return Live(World.read(text))

    def __len__(self):
        return len(self._past)

    def __str__(self):
        return str(self.world.text())

    def _become(self, world):
        """Change to another world, and tell the harms that are new and those that are gone."""
        harms = _harms_of(world)
        ahead = self.harms
        self._past = (*self._past, (self.world, ahead))
        self.world = world
        self.harms = harms
        gone = [harm for harm in ahead if harm not in harms]
        return tuple([harm for harm in harms if harm not in ahead]), tuple(gone)

    def put_in(self, at, deed):
        """Put a deed into the plan, ahead of the one that has this number, or at the end."""
        deeds = self.world.plan.deeds
        _check_number(at, len(deeds) + 1)
        return self._become(self.world.with_plan((*deeds[:at], deed, *deeds[at:])))

    def take_out(self, at):
        """Take a deed out of the plan."""
        deeds = self.world.plan.deeds
        _check_number(at, len(deeds))
        return self._become(self.world.with_plan(deeds[:at] + deeds[at + 1:]))

    def turn(self, door):
        """Let a door that was open at first be shut at first, or the other way about."""
        house = self.world.house
        number = house.number_of_door(door)
        doors = list(house.doors)
        name, one, other, is_open = doors[number]
        doors[number] = (name, one, other, not is_open)
        return self._become(self.world.with_house(House(house.parts, doors, house.cells)))

    def keep(self, cell):
        """Let a cell be kept that was not, or the other way about."""
        house = self.world.house
        number = house.number_of_cell(cell)
        names = [told[0] for at, told in enumerate(house.cells) if house.kept[at] != (at == number)]
        return self._become(self.world.with_house(house.with_kept(names)))

    def write(self, kind, at, row):
        """Write another row in the place of one of a kind."""
        kinds = list(self.world.kinds)
        number = _kind_named(self.world, kind)
        rows = list(kinds[number].rows)
        _check_number(at, len(rows))
        rows[at] = row
        kinds[number] = Kind(kind, rows)
        return self._become(World(self.world.house, kinds, self.world.plan))

    def undo(self):
        """Take the last deed back, and tell whether there was one."""
        if not self._past:
            return False
        self.world, self.harms = self._past[-1]
        self._past = self._past[:-1]
        return True

    def trying(self, work):
        """What some work on this live world returns; behind it all is as ahead."""
        world, harms, past = self.world, self.harms, self._past
        try:
            return work(self)
        finally:
            self.world, self.harms, self._past = world, harms, past
