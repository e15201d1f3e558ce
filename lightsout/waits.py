"""Rows of waits, one for each drain of a plan, and which of them are enough."""

from lightsout.basics import is_number, is_sequence, walk_lengths

# Longer than all waits: as long as one likes.
ENDLESS = 10 ** 9


def is_waits(value, many):
    """Whether any value is a sequence of so many numbers."""
    return is_sequence(value) and len(value) == many and all([is_number(wait) for wait in value])


def is_within(waits, others):
    """Whether waits are nowhere more than others."""
    return all([wait <= other for wait, other in zip(waits, others)])


def least_of(rows):
    """Those of some waits that have none of the others within, each once."""
    unlike = sorted(set(rows))
    return [row for row in unlike if not any([is_within(other, row) and other != row for other in unlike])]


def greatest_of(rows):
    """Those of some waits that are within none of the others, each once."""
    unlike = sorted(set(rows))
    return [row for row in unlike if not any([is_within(row, other) and other != row for other in unlike])]


class Worst:
    """Of all ways to a harm, how long they wait at most in the place of each drain."""

    def __init__(self, ticks, deeds):
        self._ticks = ticks
        self._plan = deeds
        self._many = len([word for word, _ in deeds if word == "drain"])
        self.harms = []
        entered = {spot: [()] for spot in ticks.firsts()}
        for done in range(len(deeds) + 1):
            entered = self._behind(entered, done)
        self.harms = greatest_of(self.harms)

    def _harm(self, row):
        """Keep a row of waits behind which a harm comes, whatever waits follow."""
        self.harms.append(row + (ENDLESS,) * (self._many - len(row)))

    def _behind(self, entered, done):
        """The waits with which each spot comes to be behind the next deed, of those with which spots come to it."""
        found = {}
        for row in sorted({waits for rows in entered.values() for waits in rows}):
            firsts = [spot for spot in entered if row in entered[spot]]
            lengths = walk_lengths(firsts, lambda spot: self._ticks.after(spot, done))
            for spot, length in lengths.items():
                if self._ticks.dark(spot, done) is not None:
                    self._harm(row)
                if done < len(self._plan):
                    self._pass(found, spot, done, row + self._waited(length, done))
        return {spot: greatest_of(found[spot]) for spot in found}

    def _waited(self, length, done):
        """How long a spot has waited in the place of the next deed, if this is a drain."""
        if self._plan[done][0] != "drain":
            return ()
        return (ENDLESS if length is None else length,)

    def _pass(self, found, spot, done, row):
        """Note where the next deed leads with a row of waits."""
        behind, harm = self._ticks.behind_deed(spot, done)
        if harm is not None:
            self._harm(row)
        else:
            found.setdefault(behind, []).append(row)


def least_enough(many, harms):
    """The least of all rows of so many waits that are within none of these, in order."""
    found = [(0,) * many]
    for worst in harms:
        kept = [row for row in found if not is_within(row, worst)]
        for row in found:
            if is_within(row, worst):
                ends = [at for at in range(many) if worst[at] < ENDLESS]
                kept.extend([row[:at] + (worst[at] + 1,) + row[at + 1:] for at in ends])
        found = least_of(kept)
    return tuple(found)
