"""Trials of many plans in one house: which are calm, and stories of those that are not."""

from lightsout.ground import Ground, check_met, labels_to_harm, walked
from lightsout.lots import HAND

# How many standings are kept of plans that begin alike.
MOST_KEPT = 100000


class Trials:
    """What any number of guests do around plans; plans that begin alike are gone through together."""

    def __init__(self, world):
        self.ground = Ground(world.house, world.kinds)
        self.first_state = (*self.ground.begin, 0)
        self._levels = {}
        self._calm = {}

    def _level(self, deeds):
        """All that comes of guests' moves behind these deeds, and whether the last one, or a guest then, does harm."""
        if deeds not in self._levels:
            starts, is_harmed = [self.ground.begin], False
            if deeds:
                starts, is_harmed = self._starts(deeds)
            met, harms = walked(starts, self._guest_moves)
            if sum([len(level[0]) for level in self._levels.values()]) > MOST_KEPT:
                self._levels = {}
            self._levels[deeds] = ([entry[0] for entry in met], is_harmed or len(harms) > 0)
        return self._levels[deeds]

    def _starts(self, deeds):
        """What comes of the last one of some deeds without a harm, and whether it may do one."""
        found = {}
        is_harmed = False
        for row, bits in self._level(deeds[:-1])[0]:
            done = self.ground.after_deed(row, bits, deeds[-1])
            if done is not None and done[2] is None:
                found[done[:2]] = True
            elif done is not None:
                is_harmed = True
        return list(found), is_harmed

    def _guest_moves(self, state):
        """The triples (label, state behind it, harm or None) of guests' moves."""
        return [(label, (row, bits), harm) for label, row, bits, harm in self.ground.moves(state[0], state[1])]

    def is_calm(self, deeds):
        """Whether no harm can come with a plan of these deeds."""
        if deeds not in self._calm:
            many = 0
            is_harmed = False
            for done in range(len(deeds) + 1):
                states, is_worse = self._level(deeds[:done])
                many += len(states)
                check_met(many)
                is_harmed = is_harmed or is_worse
            self._calm[deeds] = not is_harmed
        return self._calm[deeds]

    def moves(self, deeds, state):
        """The triples (label, state behind it, harm or None) of all moves, None being the label of the hand's."""
        row, bits, hand = state
        found = [(label, (after, lot, hand), harm) for label, after, lot, harm in self.ground.moves(row, bits)]
        done = None if hand == len(deeds) else self.ground.after_deed(row, bits, deeds[hand])
        if done is not None:
            found.append((None, (done[0], done[1], hand + 1), done[2]))
        return found

    def story(self, deeds):
        """A harm that comes with a plan that is not calm, and a shortest story by lots that ends with it."""

        def moves(state):
            """All moves."""
            return self.moves(deeds, state)

        met, harms = walked([self.first_state], moves, True)
        harm = list(harms)[0]
        return harm, tuple([self.what_of(label) for label in labels_to_harm(met, harms[harm])])

    def what_of(self, label):
        """What is done by a label."""
        return HAND if label is None else self.ground.what_of(label)
