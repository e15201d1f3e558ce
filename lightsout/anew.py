"""Hands that fall and begin anew at their last mark."""

from lightsout.basics import is_below, is_number, is_sequence, subsets
from lightsout.errors import InvalidSize, Refused
from lightsout.ground import labels_to_harm, walked
from lightsout.lots import any_number, first_standing, is_standing, is_what, moves_from
from lightsout.trials import Trials

FALL = ("fall",)


def _mark_of(marks, row):
    """The last mark of a row."""
    return max([mark for mark in marks if mark <= row])


class Anew:
    """A world whose hand may fall."""

    def __init__(self, world):
        self.world = world
        self._plan = world.plan.deeds
        self._trials = Trials(world)

    def _check_marks(self, marks):
        """InvalidSize for any value that is no row of marks."""
        if not is_sequence(marks) or not marks:
            raise InvalidSize("marks")
        last = -1
        for mark in marks:
            if not is_below(mark, len(self._plan) + 1) or mark <= last:
                raise InvalidSize("marks")
            last = mark
        if marks[0] != 0:
            raise InvalidSize("marks")

    def one_fall(self, row, mark):
        """Some story of the plan with one fall from a row to a mark, None if it is calm."""
        if not is_number(mark) or not is_number(row) or not mark <= row <= len(self._plan):
            raise InvalidSize("row")
        deeds = self._plan[:row] + self._plan[mark:]
        return None if self._trials.is_calm(deeds) else self._trials.story(deeds)[1]

    def falls(self):
        """What one fall comes to from each row to each mark below it."""
        pairs = [(row, mark) for row in range(len(self._plan) + 1) for mark in range(row)]
        return tuple([(row, mark, self.one_fall(row, mark)) for row, mark in pairs])

    def once(self, marks):
        """The first row from which one fall may do harm, its mark, and a story; None if there is none."""
        self._check_marks(marks)
        found = self._first_fall(marks)
        return None if found is None else (*found, self.one_fall(found[0], found[1]))

    def _first_fall(self, marks):
        """The first row from which one fall may do harm, and its mark; None if there is none."""
        for row in range(len(self._plan) + 1):
            mark = _mark_of(marks, row)
            if not self._trials.is_calm(self._plan[:row] + self._plan[mark:]):
                return row, mark
        return None

    def _all_marks(self):
        """All rows of marks, in order."""
        return sorted([(0, *[mark + 1 for mark in lot]) for lot in subsets(len(self._plan))])

    def good_once(self):
        """All marks with which one fall does no harm."""
        return tuple([marks for marks in self._all_marks() if self._first_fall(marks) is None])

    def _walk(self, marks):
        """What is met of any number of falls, up to the first harm, and this."""
        plan, trials = self._plan, self._trials

        def moves(state):
            """All moves, falls too."""
            row, bits, hand = state
            found = trials.moves(plan, state)
            if hand not in marks:
                found.append((FALL, (row, bits, _mark_of(marks, hand)), None))
            return found

        return walked([trials.first_state], moves, True)

    def ever(self, marks):
        """Whether any number of falls do no harm; and all standings, or a harm and entries that end with it."""
        self._check_marks(marks)
        met, harms = self._walk(marks)
        if not harms:
            standing_of = self._trials.ground.standing_of
            return True, tuple([standing_of(row, bits, hand) for (row, bits, hand), _, _ in met])
        harm = list(harms)[0]
        labels = labels_to_harm(met, harms[harm])
        return False, harm, tuple([FALL if label == FALL else self._trials.what_of(label) for label in labels])

    def _moves_of(self, marks, standing):
        """All moves of a standing, a fall too: what, the standing behind it, and the harm or None."""
        row, places, hand = standing
        found = list(moves_from(self.world, any_number(self.world), standing))
        if hand not in marks:
            found.append((FALL, (row, places, _mark_of(marks, hand)), None))
        return found

    def is_closed(self, marks, standings):
        """Whether any value is a row of unlike standings, the first one too, which all moves keep to, without harm."""
        self._check_marks(marks)
        caps = any_number(self.world)
        if not is_sequence(standings) or not all([is_standing(self.world, caps, one) for one in standings]):
            return False
        kept = {standing: True for standing in standings}
        if len(kept) < len(standings) or first_standing(self.world, caps) not in kept:
            return False
        for standing in standings:
            if not all([harm is None and behind in kept for _, behind, harm in self._moves_of(marks, standing)]):
                return False
        return True

    def good_ever(self):
        """All marks with which any number of falls do no harm."""
        return tuple([marks for marks in self._all_marks() if not self._walk(marks)[1]])

    def play_falls(self, marks, entries):
        """The standing behind entries and the harm of the last one, or None."""
        self._check_marks(marks)
        if not is_sequence(entries):
            raise Refused(0)
        standing, harm = first_standing(self.world, any_number(self.world)), None
        for at, entry in enumerate(entries):
            found = []
            if harm is None and (entry == FALL or is_what(self.world, entry)):
                found = [move for move in self._moves_of(marks, standing) if move[0] == entry]
            if not found:
                raise Refused(at)
            _, standing, harm = found[0]
        return standing, harm
