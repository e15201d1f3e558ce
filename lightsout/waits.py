"""Rows of waits, one for each drain of a plan, and which of them are enough."""

from lightsout.basics import is_number, is_sequence, walk_lengths

# Longer than all waits: as long as one likes.
ENDLESS = 1000000000


def is_waits(value, many):
    """Whether any value is a sequence of so many numbers."""
    return is_sequence(value) and len(value) == many and all([is_number(wait) for wait in value])


def is_within(waits, others):
    """Whether waits are nowhere more than others."""
    for wait, other in zip(waits, others):
        if wait > other:
            return False
    return True


def _is_within_one(waits, rows):
    """Whether waits are within one of some rows."""
    for row in rows:
        if is_within(waits, row):
            return True
    return False


def greatest_of(rows):
    """Those of some waits that are within none of the others, each once."""
    found = []
    for row in sorted(set(rows))[::-1]:
        # What is within another row is less than it.
        if not _is_within_one(row, found):
            found.append(row)
    return found


class Worst:
    """Of all ways to a harm, how long they wait at most in the place of each drain."""

    def __init__(self, ticks, deeds):
        self._ticks = ticks
        self._plan = deeds
        self._many = len([word for word, _ in deeds if word == "drain"])
        self.harms = []
        entered = {spot: [()] for spot in ticks.firsts()}
        for done in range(len(deeds) + 1):
            entered = self._behind(entered, done)
        self.harms = greatest_of(self.harms)

    def _harm(self, row):
        """Keep a row of waits behind which a harm comes, whatever waits follow."""
        self.harms.append(row + (ENDLESS,) * (self._many - len(row)))

    def _behind(self, entered, done):
        """The waits with which each spot comes to be behind the next deed, of those with which spots come to it."""
        found = {}
        for row in sorted({waits for rows in entered.values() for waits in rows}):
            firsts = [spot for spot in entered if row in entered[spot]]
            lengths = walk_lengths(firsts, lambda spot: self._ticks.after(spot, done))
            for spot, length in lengths.items():
                if self._ticks.dark(spot, done) is not None:
                    self._harm(row)
                if done < len(self._plan):
                    self._pass(found, spot, done, row + self._waited(length, done))
        return {spot: greatest_of(found[spot]) for spot in found}

    def _waited(self, length, done):
        """How long a spot has waited in the place of the next deed, if this is a drain."""
        if self._plan[done][0] != "drain":
            return ()
        return (ENDLESS if length is None else length,)

    def _pass(self, found, spot, done, row):
        """Note where the next deed leads with a row of waits."""
        behind, harm = self._ticks.behind_deed(spot, done)
        if harm is not None:
            self._harm(row)
        else:
            found.setdefault(behind, []).append(row)


def _is_least(waits, harms):
    """Whether waits that are enough are not so with one of them lessened."""
    lessened = [waits[:at] + (wait - 1,) + waits[at + 1:] for at, wait in enumerate(waits) if wait > 0]
    return all([_is_within_one(row, harms) for row in lessened])


def _with_last(waits, harms):
    """The waits with the least last one behind them that is enough, if there is one: one row, or none."""
    ends = [worst[-1] for worst in harms if is_within(waits, worst)]
    last = max([-1, *ends]) + 1
    return [waits + (last,)] if last < ENDLESS else []


def least_enough(many, harms):
    """The least of all rows of so many waits that are within none of these, in order."""
    if many == 0:
        return () if harms else ((),)
    rows = [()]
    for at in range(many - 1):
        # A least wait is none at all, or just above one that is too short.
        ends = sorted({worst[at] + 1 for worst in harms if worst[at] < ENDLESS})
        rows = [row + (wait,) for row in rows for wait in (0, *ends)]
    found = []
    for row in rows:
        found.extend(_with_last(row, harms))
    return tuple([row for row in found if _is_least(row, harms)])
