"""Who can tell by a trace that lights went off and on: what is seen in one world and not in another one."""

from lightsout.sights import Sights, Tops


class Crowd:
    """What can be where nobody puts lights off: rows of sights, by numbers; each is told once."""

    def __init__(self, world, is_strict=False):
        self.sights = Sights(world, is_strict)
        self._rows = []
        self._row_numbers = {}
        # For each row some sights of which all of it is due.
        self._seeds = []
        self._tops = []
        self._unders = {}
        self._dues = {}
        self._nexts = {}

    def number_of(self, row, seeds=()):
        """The number of a tuple of sights."""
        if row not in self._row_numbers:
            tops = Tops(self.sights)
            for sight in row:
                tops.keep(sight, 0)
            self._row_numbers[row] = len(self._rows)
            self._rows.append(row)
            self._seeds.append(seeds)
            self._tops.append(tops)
        return self._row_numbers[row]

    def row_at(self, number):
        """The tuple of sights that has a number."""
        return self._rows[number]

    def seeds_at(self, number):
        """Some sights of which all is due that is told by a number."""
        return self._seeds[number]

    def _due_of(self, sights):
        """The number of what is due of some sights, but what is behind others."""
        seeds, row = self.sights.spread(sights)
        return self.number_of(row, seeds)

    def opening(self, kind):
        """The number of what is due of a kind's first sight."""
        return self._due_of([self.sights.first_of(kind)])

    def due(self, number):
        """The number of what is due of a row."""
        if number not in self._dues:
            self._dues[number] = self._due_of(self._rows[number])
        return self._dues[number]

    def behind(self, number, word):
        """The number of what is due of what those steps lead to from a row that show a word."""
        if (number, word) not in self._nexts:
            told = [self.sights.seen(sight) for sight in self._rows[number]]
            self._nexts[number, word] = self._due_of([one[1] for one in told if one is not None and one[0] == word])
        return self._nexts[number, word]

    def is_under(self, one, other):
        """Whether each sight of one row is behind one of another row."""
        if (one, other) not in self._unders:
            tops = self._tops[other]
            self._unders[one, other] = one == other or all([tops.has_greater(sight, 0) for sight in self._rows[one]])
        return self._unders[one, other]


class Teller:
    """The search for the least trace that a kind's guests show in a kept world, and nobody shows in a crowd."""

    def __init__(self, kept, crowd, is_strict=False):
        self._sights = Sights(kept, is_strict)
        self._crowd = crowd
        self._tops = Tops(self._sights, crowd)
        self._pairs = []

    def _fresh(self, sights, number):
        """All that unseen moves lead to from some sights beside a row and that is not served by what is met."""
        left = list(sights)
        seen = {}
        found = []
        while left:
            sight = left.pop()
            if sight in seen:
                continue
            seen[sight] = True
            _, better = self._sights.grown(self._sights.bare(sight))
            if self._tops.put(better, number):
                found.append(better)
                self._pairs.append((better, number))
                left.extend([behind for _, behind in self._sights.unseen(better) if behind not in seen])
        return found

    def _shown(self, sights):
        """For each word that steps from some sights show, in order, the sights behind them."""
        found = {}
        for sight in sights:
            told = self._sights.seen(sight)
            if told is not None:
                found.setdefault(told[0], []).append(told[1])
        return [(word, found[word]) for word in sorted(found)]

    def search(self, kind, most=None):
        """The words of the least trace of a kind that only the kept world shows, of at most so many; None for none."""
        layer = [((), [self._sights.first_of(kind)], self._crowd.opening(kind))]
        while layer and (most is None or len(layer[0][0]) < most):
            behind = []
            for words, sights, number in layer:
                told = self._shown(self._fresh(sights, number))
                for word, more in told:
                    after = self._crowd.behind(number, word)
                    if not self._crowd.row_at(after):
                        return (*words, word)
                    behind.append(((*words, word), more, after))
            layer = behind
        return None

    def pairs(self):
        """All sights that have been met, each with some of which its row is due."""
        rows = {}
        for _, number in self._pairs:
            if number not in rows:
                rows[number] = tuple([self._crowd.sights.sight_of(sight) for sight in self._crowd.seeds_at(number)])
        return tuple([(self._sights.sight_of(sight), rows[number]) for sight, number in self._pairs])


def telling_rows_hold(sights, kind, words, rows):
    """Whether rows of sights, by numbers, tell that nobody of a kind shows these words."""
    if len(rows) != len(words) + 1 or rows[-1]:
        return False
    tops = []
    for row in rows:
        tops.append(Tops(sights))
        for sight in row:
            tops[-1].keep(sight, 0)
    due = [(0, sights.first_of(kind))]
    for at, row in enumerate(rows):
        for sight in row:
            due.extend([(at, behind) for _, behind in sights.unseen(sight)])
            told = sights.seen(sight)
            if told is not None and told[0] == words[at]:
                due.append((at + 1, told[1]))
    return all([tops[at].has_greater(sight, 0) for at, sight in due])


def calm_rows_hold(sights, crowd, kind, rows):
    """Whether pairs of a sight of the kept world and the number of a crowd's row tell that nobody can tell."""
    tops = Tops(sights, crowd)
    for sight, number in rows:
        tops.keep(sight, number)
    if not tops.has_greater(sights.first_of(kind), crowd.opening(kind)):
        return False
    for sight, number in rows:
        around = crowd.due(number)
        due = [(behind, around) for _, behind in sights.unseen(sight)]
        told = sights.seen(sight)
        if told is not None:
            due.append((told[1], crowd.behind(around, told[0])))
        if not all([tops.has_greater(behind, more) for behind, more in due]):
            return False
    return True
