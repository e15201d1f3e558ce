"""Kept cells: who can tell that lights went off and on."""

from itertools import combinations

from lightsout.basics import is_sequence, is_within
from lightsout.errors import InvalidLot, NoName
from lightsout.events import event_told
from lightsout.sights import Sights, is_sight
from lightsout.tellers import Crowd, Teller, calm_rows_hold, telling_rows_hold
from lightsout.traces import kind_number, played, story_for, trace_of, word_text, words_of


def keepings(house):
    """All keepings, the shorter first."""
    names = [cell[0] for cell in house.cells]
    found = []
    for size in range(len(names) + 1):
        found.extend(list(combinations(names, size)))
    return tuple(found)


def kept_world(world, keeping):
    """The world in which just these cells are kept."""
    if not is_sequence(keeping):
        raise InvalidLot(-1)
    last = -1
    for at, name in enumerate(keeping):
        if not isinstance(name, str):
            raise InvalidLot(at)
        number = world.house.number_of_cell(name)
        if number <= last:
            raise InvalidLot(at)
        last = number
    return world.with_house(world.house.with_kept(keeping))


def never_off(world):
    """The world without the deeds that put lights off and on."""
    return world.with_plan([told for told in world.plan.deeds if told[0] not in ("off", "on")])


def _checked_kinds(world, kinds):
    """The numbers of kinds by their names, each once, in order."""
    if not is_sequence(kinds):
        raise NoName(kinds)
    return sorted(set([kind_number(world, name) for name in kinds]))


def _text_of(words):
    """The trace that shows these words."""
    return " ".join([word_text(word) for word in words])


def _least_telling(kept, crowd, numbers):
    """The number of the kind and the words of the least trace by which one of some kinds can tell; None for none."""
    found = None
    for number in numbers:
        words = Teller(kept, crowd).search(number, None if found is None else len(found[1]) - 1)
        if words is not None:
            found = (number, words)
    return found


def _with_idle(world, keeping):
    """A keeping with the cells, too, that no kind sets and no kind uses: they make nothing good or bad."""
    rows = [row for kind in world.kinds for row in kind.rows]
    busy = [row[1] for row in rows if row[0] in ("set", "use")]
    return tuple([cell[0] for cell in world.house.cells if cell[0] in keeping or cell[0] not in busy])


def _told_by(world, kinds, keeping):
    """The kept world, the kinds' numbers, and what `_least_telling` tells; for what may be refused."""
    numbers = _checked_kinds(world, kinds)
    kept = kept_world(world, keeping)
    alike = kept_world(world, _with_idle(world, keeping))
    return kept, numbers, _least_telling(alike, Crowd(never_off(world)), numbers)


def telling(world, kinds, keeping):
    """The name of the kind and the least trace by which a guest of these kinds can tell; None if none can."""
    found = _told_by(world, kinds, keeping)[2]
    return None if found is None else (world.kinds[found[0]].name, _text_of(found[1]))


def is_good(world, kinds, keeping):
    """Whether no guest of these kinds can tell."""
    return telling(world, kinds, keeping) is None


def good_keepings(world, kinds):
    """All good keepings."""
    numbers = _checked_kinds(world, kinds)
    crowd = Crowd(never_off(world))
    good = {}
    for keeping in keepings(world.house):
        alike = _with_idle(world, keeping)
        if alike not in good:
            good[alike] = _least_telling(kept_world(world, alike), crowd, numbers) is None
    return tuple([keeping for keeping in keepings(world.house) if good[_with_idle(world, keeping)]])


def least_good(world, kinds):
    """The good keepings that hold no other one."""
    good = good_keepings(world, kinds)
    return tuple([one for one in good if not any([is_within(other, one) for other in good if other != one])])


def gap(world, kinds):
    """The first good keeping with one that is not good and has all its cells, None if there is none."""
    good = good_keepings(world, kinds)
    for one in good:
        for other in keepings(world.house):
            if other not in good and is_within(one, other):
                return one, other
    return None


def telling_paper(world, kinds, keeping):
    """Some paper that a guest of these kinds can tell, None for a good keeping."""
    kept, _, found = _told_by(world, kinds, keeping)
    if found is None:
        return None
    number, words = found
    crowd = Crowd(never_off(world), True)
    rows = [crowd.opening(number)]
    for word in words:
        rows.append(crowd.behind(rows[-1], word))
    told = [tuple([crowd.sights.sight_of(sight) for sight in crowd.row_at(row)]) for row in rows]
    name, text = world.kinds[number].name, _text_of(words)
    return name, text, story_for(kept, name, text), tuple(told)


def _shows(kept, name, text, story):
    """Whether any value is a story without a harm whose guest 0 is of a kind and has a trace."""
    if not isinstance(story, tuple):
        return False
    told = [event_told(kept, event) for event in story]
    if None in told:
        return False
    standing, shown, at = played(kept, told)
    if at is not None or not standing[1]:
        return False
    return kept.kinds[standing[1][0][0]].name == name and trace_of(shown, 0) == text


def _are_rows(world, value):
    """Whether any value is a tuple of tuples of sights."""
    if not isinstance(value, tuple) or not all([isinstance(row, tuple) for row in value]):
        return False
    return all([is_sight(world, sight) for row in value for sight in row])


def telling_holds(world, kinds, keeping, value):
    """Whether any value is a paper that a guest of these kinds can tell."""
    numbers = _checked_kinds(world, kinds)
    kept = kept_world(world, keeping)
    around = never_off(world)
    if not isinstance(value, tuple) or len(value) != 4:
        return False
    name, text, story, rows = value
    words = words_of(text)
    if words is None or name not in [world.kinds[number].name for number in numbers]:
        return False
    if not _shows(kept, name, text, story) or not _are_rows(around, rows):
        return False
    sights = Sights(around, True)
    numbered = [[sights.numbers_of(sight) for sight in row] for row in rows]
    return telling_rows_hold(sights, kind_number(world, name), words, numbered)


def calm_paper(world, kinds, keeping):
    """Some paper that no guest of these kinds can tell, None for a keeping that is not good."""
    kept, numbers, found = _told_by(world, kinds, keeping)
    if found is not None:
        return None
    crowd = Crowd(never_off(world), True)
    paper = []
    for number in numbers:
        teller = Teller(kept, crowd, True)
        teller.search(number)
        paper.append((world.kinds[number].name, teller.pairs()))
    return tuple(paper)


def _is_calm_row(kept, around, value):
    """Whether any value is a pair of a sight of one world and some of another one."""
    if not isinstance(value, tuple) or len(value) != 2 or not is_sight(kept, value[0]):
        return False
    if not isinstance(value[1], tuple) or not value[1]:
        return False
    return all([is_sight(around, sight) for sight in value[1]])


def _calm_rows_of(kept, around, value, name):
    """The rows for a kind of any value that may be a part of a calm paper, None if it is none."""
    if not isinstance(value, tuple) or len(value) != 2 or not isinstance(value[1], tuple) or value[0] != name:
        return None
    return value[1] if all([_is_calm_row(kept, around, row) for row in value[1]]) else None


def calm_holds(world, kinds, keeping, value):
    """Whether any value is a paper that no guest of these kinds can tell."""
    numbers = _checked_kinds(world, kinds)
    kept = kept_world(world, keeping)
    around = never_off(world)
    if not isinstance(value, tuple) or len(value) != len(numbers):
        return False
    crowd = Crowd(around, True)
    for number, part in zip(numbers, value):
        rows = _calm_rows_of(kept, around, part, world.kinds[number].name)
        if rows is None:
            return False
        sights = Sights(kept, True)
        told = []
        for sight, more in rows:
            beside = tuple([crowd.sights.numbers_of(one) for one in more])
            told.append((sights.numbers_of(sight), crowd.number_of(beside)))
        if not calm_rows_hold(sights, crowd, number, told):
            return False
    return True
