"""What can be at each look of the hand, of what sensors have told of it."""

from lightsout.basics import is_below, is_sequence, labels_to
from lightsout.bells import entry_at
from lightsout.errors import InvalidLog, InvalidSize
from lightsout.ground import Ground, check_met, walked
from lightsout.house import is_row, part_named
from lightsout.lots import HAND, any_number, is_lot
from lightsout.plans import asked_empty

# For each word of a saying what stands behind it: p a part, c a cell, d a door, v a value.
SAYINGS = {"nobody": "p", "value": "cv", "open": "d", "told": "c"}


def is_entry(sensors, value):
    """Whether any value is an entry of sensors, but None."""
    if not isinstance(value, tuple) or len(value) != len(sensors):
        return False
    for sensor, item in zip(sensors, value):
        if not (is_below(item, 3) if sensor[0] == "face" else isinstance(item, bool)):
            return False
    return True


def check_log(world, sensors, log):
    """InvalidLog for any value that is no log."""
    if not is_sequence(log) or not 1 <= len(log) <= len(world.plan.deeds) + 1:
        raise InvalidLog(-1)
    for at, entry in enumerate(log):
        if entry is not None and not is_entry(sensors, entry):
            raise InvalidLog(at)


def check_saying(house, saying):
    """The errors of any value that may be a saying."""
    if not isinstance(saying, tuple) or not saying or not isinstance(saying[0], str) or saying[0] not in SAYINGS:
        raise InvalidSize("saying")
    form = SAYINGS[saying[0]]
    if len(saying) != len(form) + 1 or not isinstance(saying[1], str):
        raise InvalidSize("saying")
    if form == "cv" and not is_below(saying[2], 3):
        raise InvalidSize("saying")
    if form[0] == "p":
        part_named(house, saying[1])
    elif form[0] == "d":
        house.number_of_door(saying[1])
    else:
        house.number_of_cell(saying[1])


class Looks:
    """A world with sensors, by numbers: a state is (house row, taken places, hand, doors whose bells are lit)."""

    def __init__(self, world, sensors, ground=None):
        self._world = world
        self._sensors = sensors
        self._ground = Ground(world.house, world.kinds) if ground is None else ground
        self._bells = {name: 1 << world.house.number_of_door(name) for word, name in sensors if word == "bell"}
        self.first_state = (*self._ground.begin, 0, 0)

    def _bell_of(self, place):
        """The bit of the door whose bell lights by the step of those at a place, 0 for none."""
        kind, at, _, _ = self._ground.place_at(place)
        told = self._world.kinds[kind].rows[at]
        return self._bells.get(told[1], 0) if told[0] == "go" else 0

    def moves(self, state):
        """The triples (label, state behind it, None) of the guests' steps without a harm."""
        row, bits, hand, lit = state
        found = []
        for place in self._ground.lot_of(bits):
            told = self._ground.stepped(row, place)
            if told is None or told[2] is not None:
                continue
            after, to, _ = told
            more = lit | self._bell_of(place)
            found.append(((place, False), (after, bits | 1 << to, hand, more), None))
            if not self._ground.roots >> place & 1:
                found.append(((place, True), (after, bits ^ 1 << place | 1 << to, hand, more), None))
        return [move for move in found if move[1] != state]

    def walk(self, starts):
        """What is met in breadth from some states by steps without a harm."""
        return walked(starts, self.moves)[0]

    def entry_of(self, state):
        """What the sensors tell at a look."""
        row, bits, hand, lit = state
        names = [name for name, bit in self._bells.items() if bit & lit]
        return entry_at(self._world.house, self._sensors, self._ground.standing_of(row, bits, hand), names)

    def behind(self, state):
        """The state behind the next deed, None if it can't be done without a harm."""
        row, bits, hand, _ = state
        done = self._ground.after_deed(row, bits, self._world.plan.deeds[hand])
        return None if done is None or done[2] is not None else (done[0], done[1], hand + 1, 0)

    def is_asked(self, state):
        """Whether somebody is in the part that the next deed asks to be empty."""
        name = asked_empty(self._world.plan.deeds[state[2]])
        if name is None:
            return False
        return state[1] & self._ground.bits_within(self._world.house.number_of_part(name)) != 0

    def says(self, saying, state):
        """Whether a saying holds."""
        house = self._world.house
        row = self._ground.row_at(state[0])
        if saying[0] == "nobody":
            return not state[1] & self._ground.bits_within(house.number_of_part(saying[1]))
        if saying[0] == "open":
            return row[0][house.number_of_door(saying[1])]
        cell = house.number_of_cell(saying[1])
        return row[2][cell] == saying[2] if saying[0] == "value" else row[4][cell] in (1, 2)

    def what_of(self, label):
        """What is done by the label of a move."""
        return self._ground.what_of(label)

    def standing_of(self, state):
        """The standing of a state, without what is lit."""
        return self._ground.standing_of(state[0], state[1], state[2])

    def watched_of(self, state):
        """The watched standing of a state."""
        lit = state[3]
        return (*self.standing_of(state), tuple([door for door in range(lit.bit_length()) if lit >> door & 1]))

    def state_of(self, watched):
        """The state of what is known to be a watched standing."""
        row, places, hand, lit = watched
        bits = sum([1 << door for door in lit])
        return self._ground.row_number(row), self._ground.bits_of(places), hand, bits

    def is_watched(self, value):
        """Whether any value has the form of a watched standing."""
        if not isinstance(value, tuple) or len(value) != 4 or not is_row(self._world.house, value[0]):
            return False
        house, kinds, lit = self._world.house, self._world.kinds, value[3]
        if not is_lot(house, kinds, any_number(self._world), value[1]) or not isinstance(lit, tuple):
            return False
        if not is_below(value[2], len(self._world.plan.deeds) + 1):
            return False
        if not all([is_below(door, len(house.doors)) and house.doors[door][0] in self._bells for door in lit]):
            return False
        return all([one < other for one, other in zip(lit, lit[1:])])


def root_of(walk, at):
    """The number of the start of a walk from which an entry of it is come to."""
    while walk[at][1] >= 0:
        at = walk[at][1]
    return at


def story_along(looks, chain, at):
    """The whats that lead to the state that has a number in the last walk of a chain.

    A chain has pairs: a walk, and for each of its starts the number, in the walk ahead, of the state ahead of the deed.
    """
    rows = []
    for walk, origins in chain[::-1]:
        rows.append([looks.what_of(label) for label in labels_to(walk, at)])
        at = origins[root_of(walk, at)]
    story = rows[-1]
    for row in rows[-2::-1]:
        story = [*story, HAND, *row]
    return tuple(story)


def entries_of(looks, walk):
    """For each entry that the sensors tell behind a walk the numbers of the states."""
    found = {}
    for at, met in enumerate(walk):
        found.setdefault(looks.entry_of(met[0]), []).append(at)
    return found


def next_starts(looks, walk, numbers):
    """The states behind the next deed, of those that have these numbers, and for each the first of these."""
    starts = {}
    for at in numbers:
        behind = looks.behind(walk[at][0])
        if behind is not None:
            starts.setdefault(behind, at)
    return starts


class Levels:
    """What can be between looks, one look behind another."""

    def __init__(self, looks):
        self.looks = looks
        self._chain = [(looks.walk([looks.first_state]), [None])]

    def walks(self):
        """The walks between the looks."""
        return [walk for walk, _ in self._chain]

    def state_at(self, at):
        """The state of the last walk that has a number."""
        return self._chain[-1][0][at][0]

    def told(self, entry):
        """The numbers of the states of the last walk of which the sensors tell an entry; all for None."""
        walk = self._chain[-1][0]
        if entry is None:
            return list(range(len(walk)))
        return entries_of(self.looks, walk).get(entry, [])

    def all_told(self):
        """For each entry that the sensors tell behind the last walk the numbers of the states."""
        return entries_of(self.looks, self._chain[-1][0])

    def go_on(self, numbers):
        """Do the next deed, where it can be done without a harm, in those states of the last walk."""
        starts = next_starts(self.looks, self._chain[-1][0], numbers)
        self._chain.append((self.looks.walk(list(starts)), list(starts.values())))

    def story(self, at):
        """The whats that lead to the state of the last walk that has a number."""
        return story_along(self.looks, self._chain, at)


def levels_of(looks, log):
    """What can be between the looks of a log, and the numbers of the states that have its last entry."""
    levels = Levels(looks)
    fitting = levels.told(log[0])
    for entry in log[1:]:
        levels.go_on(fitting)
        fitting = levels.told(entry)
    return levels, fitting


def _chain_of(nodes, number):
    """The chain of walks that leads to a node."""
    chain = []
    while number is not None:
        ahead, walk, origins = nodes[number]
        chain.append((walk, origins))
        number = ahead
    return chain[::-1]


def _all_nodes(looks, many):
    """All that can be known behind so many deeds: nodes, and the numbers of the last ones.

    A node is (number of the node ahead, walk, origins of its starts); logs behind whose last deed just the same can be
    are one.
    """
    nodes = [(None, looks.walk([looks.first_state]), [None])]
    last = [0]
    for _ in range(many):
        seen = {}
        behind = []
        for number in last:
            walk = nodes[number][1]
            for numbers in entries_of(looks, walk).values():
                starts = next_starts(looks, walk, numbers)
                key = tuple(sorted(starts))
                if starts and key not in seen:
                    seen[key] = True
                    behind.append(len(nodes))
                    nodes.append((number, looks.walk(list(starts)), list(starts.values())))
                    check_met(sum([len(node[1]) for node in nodes]))
        last = behind
    return nodes, last


def undecided_pair(looks, saying, many):
    """Some pair of stories of so many deeds with one log, a saying holding behind the first one alone; or None."""
    nodes, last = _all_nodes(looks, many)
    for number in last:
        walk = nodes[number][1]
        for numbers in entries_of(looks, walk).values():
            told = [looks.says(saying, walk[at][0]) for at in numbers]
            if True in told and False in told:
                chain = _chain_of(nodes, number)
                yes, no = numbers[told.index(True)], numbers[told.index(False)]
                return story_along(looks, chain, yes), story_along(looks, chain, no)
    return None
