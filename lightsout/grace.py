"""Waits in the place of drains: how long is enough, for any number of guests."""

from lightsout.basics import is_below, is_integer, is_sequence, labels_to_last, reach, search, walk_lengths
from lightsout.errors import InvalidLot, InvalidSize, Refused
from lightsout.house import part_named
from lightsout.ticks import Ticks
from lightsout.waits import Worst, is_waits, least_enough

HARM = "harm"
LOOP = "loop"


def _is_pair(value):
    """Whether any value is a tuple of two things."""
    return isinstance(value, tuple) and len(value) == 2


def _is_harm(state):
    """Whether the state of a tale is a harm."""
    return state is not None and state[0] == HARM


def _ring_of(spots, after):
    """Some of these spots, each behind the one ahead, the first behind the last; each of them has one of them behind.

    `after` gives the spots behind one.
    """
    row = [spots[0]]
    while row[-1] not in row[:-1]:
        row.append([spot for spot in after(row[-1]) if spot in spots][0])
    return tuple(row[row.index(row[-1]) + 1:])


def _is_loop(states, loop, begin, end):
    """Whether any value is a pair of numbers between which the states behind ticks lead from a spot to itself."""
    if not _is_pair(loop) or not is_integer(loop[0]) or not is_integer(loop[1]):
        return False
    return begin <= loop[0] < loop[1] <= end and states[loop[0] - 1][0] == states[loop[1] - 1][0]


class Grace:
    """A world whose guests keep to told times, and whose hand waits in the place of drains."""

    def __init__(self, world, times):
        self._ticks = Ticks(world, times)
        self.world = world
        self.times = self._ticks.times
        self._plan = world.plan.deeds
        self._drains = [at for at, told in enumerate(self._plan) if told[0] == "drain"]

    def _checked(self, waits, word="waits"):
        """Any value as a tuple, if it tells a number for each drain."""
        if not is_waits(waits, len(self._drains)):
            raise InvalidSize(word)
        return tuple(waits)

    def _wait(self, waits, done):
        """How long the hand waits ahead of the next deed."""
        return waits[self._drains.index(done)] if done in self._drains else 0

    def spots_after(self, spot, done):
        """The spots to which a tick without harm may lead when so many deeds are done."""
        if not self._ticks.is_spot(spot):
            raise InvalidLot(0)
        if not is_below(done, len(self._plan) + 1):
            raise InvalidSize("done")
        return self._ticks.after(spot, done)

    def _entry(self, state, entry, waits):
        """The state behind an entry of a tale, and the harm or None; None for what can't be.

        A state is (spot, deeds done, ticks since the last deed), None ahead of all.
        """
        if entry == ("hand",):
            return None if state is None else self._hand(state, waits)
        if not _is_pair(entry):
            return None
        word, told = entry
        if word == "come" and state is None and is_below(told, len(self.world.kinds)):
            return (self._ticks.firsts()[told], 0, 0), None
        if word != "tick" or state is None or not self._ticks.is_spot(told):
            return None
        spot, done, age = state
        dark = self._ticks.dark(spot, done)
        if dark is not None and dark[0] == told:
            return (told, done, age + 1), dark[1]
        return ((told, done, age + 1), None) if told in self._ticks.after(spot, done) else None

    def _hand(self, state, waits):
        """The state behind the next deed, or the end of a wait, and the harm or None; None if it can't be."""
        spot, done, age = state
        if done == len(self._plan) or age < self._wait(waits, done):
            return None
        behind, harm = self._ticks.behind_deed(spot, done)
        return (behind, done + 1, 0), harm

    def _played(self, entries, waits):
        """The states behind the entries of any value that may be a tale, and the harm they come to or None."""
        if not is_sequence(entries):
            raise Refused(0)
        states = []
        harm = None
        for at, entry in enumerate(entries):
            found = None if harm is not None else self._entry(states[-1] if states else None, entry, waits)
            if found is None:
                raise Refused(at)
            state, harm = found
            states.append(state)
        return states, harm

    def play_tale(self, entries, waits):
        """The harm that the entries of a tale come to, None if they come to none."""
        told = self._checked(waits)
        return self._played(entries, told)[1]

    def _spots_in(self, part):
        """The spots of a part that can come, doors as at first, in order."""
        met = {}
        for first in self._ticks.firsts():
            found = reach(first, lambda spot: [(behind, behind) for behind in self._ticks.after(spot, 0)])
            met.update({spot: True for spot in found if spot[2] == part})
        return sorted(met)

    def _longest(self, part):
        """What `longest` tells of a part, by its number."""
        spots = self._spots_in(part)
        ahead = {spot: [] for spot in spots}
        for spot in spots:
            for behind in self._ticks.after(spot, 0):
                if behind in ahead:
                    ahead[behind].append(spot)
        heights = walk_lengths(spots, lambda spot: ahead[spot])
        held = [spot for spot in spots if heights[spot] is None]
        if held:
            return None, _ring_of(held, lambda spot: self._ticks.after(spot, 0))
        return max([0, *[heights[spot] + 1 for spot in spots]]), tuple([(spot, heights[spot] + 1) for spot in spots])

    def longest(self, part):
        """How long somebody can be in a part, with the heights of its spots, or None and a ring."""
        return self._longest(part_named(self.world.house, part))

    def is_longest(self, part, number, heights):
        """Whether any values tell how long somebody can be in a part."""
        most, found = self._longest(part_named(self.world.house, part))
        if most is None or not is_integer(number) or not is_sequence(heights):
            return False
        if not all([_is_pair(pair) and self._ticks.is_spot(pair[0]) and is_integer(pair[1]) for pair in heights]):
            return False
        return number == most and tuple(heights) == found

    def is_ring(self, part, ring):
        """Whether any value is a ring of a part."""
        spots = self._spots_in(part_named(self.world.house, part))
        if not is_sequence(ring) or not ring:
            return False
        if not all([self._ticks.is_spot(spot) and spot in spots for spot in ring]):
            return False
        return all([spot in self._ticks.after(ring[at - 1], 0) for at, spot in enumerate(ring)])

    def _ages(self, waits):
        """The rows of least ages, None if waits are not enough."""
        rows = []
        entered = self._ticks.firsts()
        for done in range(len(self._plan) + 1):
            lengths = walk_lengths(entered, lambda spot: self._ticks.after(spot, done))
            wait = self._wait(waits, done)
            ages = {spot: wait if length is None else min(wait, length) for spot, length in lengths.items()}
            passed = [spot for spot in ages if ages[spot] == wait and done < len(self._plan)]
            behind = [self._ticks.behind_deed(spot, done) for spot in passed]
            is_dark = any([self._ticks.dark(spot, done) is not None for spot in ages])
            if is_dark or any([harm is not None for _, harm in behind]):
                return None
            rows.append(tuple(sorted(ages.items())))
            entered = [spot for spot, _ in behind]
        return tuple(rows)

    def _steps(self, state, waits):
        """The pairs (entry, state behind it) of a tale; no tick counts beyond the wait, and a harm is a state, too."""
        if state is None:
            return [(("come", kind), (spot, 0, 0)) for kind, spot in enumerate(self._ticks.firsts())]
        if state[0] == HARM:
            return []
        spot, done, age = state
        age = min(age + 1, self._wait(waits, done))
        found = [(("tick", behind), (behind, done, age)) for behind in self._ticks.after(spot, done)]
        dark = self._ticks.dark(spot, done)
        if dark is not None:
            found.append((("tick", dark[0]), (HARM, dark[1])))
        told = self._hand(state, waits)
        if told is not None:
            found.append((("hand",), told[0] if told[1] is None else (HARM, told[1])))
        return found

    def tried(self, waits):
        """Whether waits are enough, with the least ages, or a tale of fewest entries and its harm."""
        told = self._checked(waits)
        ages = self._ages(told)
        if ages is not None:
            return True, ages
        met = search(None, lambda state: self._steps(state, told), _is_harm)
        return False, (labels_to_last(met), met[-1][0][1])

    def is_ages(self, waits, ages):
        """Whether any value is ages that show that waits are enough."""
        told = self._checked(waits)
        if not is_sequence(ages) or len(ages) != len(self._plan) + 1:
            return False
        if not all([self._is_row(row, self._wait(told, done)) for done, row in enumerate(ages)]):
            return False
        rows = [{spot: age for spot, age in row} for row in ages]
        return all([self._row_holds(rows, done, self._wait(told, done)) for done in range(len(rows))])

    def _is_row(self, row, wait):
        """Whether any value is a row of pairs (spot, age), in order, no spot twice."""
        if not is_sequence(row) or not all([_is_pair(pair) and self._ticks.is_spot(pair[0]) for pair in row]):
            return False
        if not all([is_below(age, wait + 1) for _, age in row]):
            return False
        spots = [spot for spot, _ in row]
        return spots == sorted(set(spots))

    def _row_holds(self, rows, done, wait):
        """Whether a row of ages holds beside the next one."""
        ages = rows[done]
        if not all([ages.get(spot) == wait for spot in self._ticks.firsts()]):
            return False
        for spot, age in ages.items():
            if self._ticks.dark(spot, done) is not None:
                return False
            if not all([ages.get(behind, -1) >= min(age + 1, wait) for behind in self._ticks.after(spot, done)]):
                return False
            if age == wait and done < len(self._plan):
                behind, harm = self._ticks.behind_deed(spot, done)
                if harm is not None or behind not in rows[done + 1]:
                    return False
        return True

    def least_waits(self):
        """All waits that are enough and of which no number can be lessened, in order."""
        return least_enough(len(self._drains), Worst(self._ticks, self._plan).harms)

    def cheapest(self, prices):
        """The least sum of prices times waits that are enough, and the first least waits with it; None for none."""
        told = self._checked(prices, "prices")
        rows = self.least_waits()
        if not rows:
            return None
        sums = [sum([price * wait for price, wait in zip(told, row)]) for row in rows]
        return min(sums), rows[sums.index(min(sums))]

    def needless(self):
        """The numbers of the drains that have no wait in some of the least waits, and in all of them."""
        rows = self.least_waits()
        some = [at for at in range(len(self._drains)) if 0 in [row[at] for row in rows]]
        return tuple(some), tuple([at for at in some if not any([row[at] for row in rows])])

    def _loop_steps(self, state):
        """The pairs (entry, state behind it) of a tale for waits of 0 that goes round in the place of each drain.

        A state is (spot, deeds done, whether it has gone round), None ahead of all; going round is an entry, too.
        """
        if state is None:
            return [(("come", kind), (spot, 0, False)) for kind, spot in enumerate(self._ticks.firsts())]
        if state[0] == HARM:
            return []
        spot, done, is_round = state
        found = [(("tick", behind), (behind, done, is_round)) for behind in self._ticks.after(spot, done)]
        dark = self._ticks.dark(spot, done)
        if dark is not None:
            found.append((("tick", dark[0]), (HARM, dark[1])))
        if done in self._drains and not is_round:
            if self._ticks.ring_at(spot, done) is not None:
                found.append(((LOOP, spot, done), (spot, done, True)))
        elif done < len(self._plan):
            behind, harm = self._ticks.behind_deed(spot, done)
            found.append((("hand",), (behind, done + 1, False) if harm is None else (HARM, harm)))
        return found

    def endless(self):
        """A tale with loops that make it one for all waits, and its harm; None if some waits are enough."""
        met = search(None, lambda state: self._loop_steps(state), _is_harm)
        if not _is_harm(met[-1][0]):
            return None
        entries = []
        loops = []
        for entry in labels_to_last(met):
            if entry[0] == LOOP:
                begin = len(entries)
                entries.extend([("tick", spot) for spot in self._ticks.ring_at(entry[1], entry[2])])
                loops.append((begin, len(entries)))
            else:
                entries.append(entry)
        return tuple(entries), tuple(loops), met[-1][0][1]

    def is_endless(self, entries, loops):
        """Whether the entries of a tale for waits of 0 and these loops make a tale for all waits."""
        states, harm = self._played(entries, (0,) * len(self._drains))
        ends = [at for at, entry in enumerate(entries) if entry == ("hand",)]
        begins = [1, *[end + 1 for end in ends]]
        passed = [done for done in self._drains if done < len(ends)]
        if harm is None or not is_sequence(loops) or len(loops) != len(passed):
            return False
        return all([_is_loop(states, loop, begins[done], ends[done]) for loop, done in zip(loops, passed)])
