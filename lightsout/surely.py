"""What bells, lamps and faces tell for sure."""

from itertools import combinations

from lightsout.basics import is_below, is_within, labels_to
from lightsout.bells import check_sensors
from lightsout.errors import InvalidSize, Refused
from lightsout.ground import Ground
from lightsout.guests import place_key
from lightsout.looks import Levels, Looks, check_log, check_saying, is_entry, levels_of, root_of, undecided_pair

MOST_SENSORS = 5


def _key(standing):
    """What standings, watched or not, are ordered by."""
    row, places, *rest = standing
    return row, tuple([place_key(place) for place in places]), tuple(rest)


def _in_order(standings):
    """The standings, each once, in order."""
    keyed = {_key(standing): standing for standing in standings}
    return tuple([keyed[key] for key in sorted(keyed)])


def _looks(world, sensors):
    """A world with any value that may be a row of sensors."""
    check_sensors(world.house, sensors)
    return Looks(world, tuple(sensors))


def stretch(world, sensors, starts):
    """All watched standings that come from some by steps of guests without a harm."""
    looks = _looks(world, sensors)
    firsts = {looks.state_of(start): True for start in starts}
    return _in_order([looks.watched_of(entry[0]) for entry in looks.walk(list(firsts))])


def _levels(world, sensors, log):
    """What can be between the looks of any value that may be a log, and what fits at the last one."""
    looks = _looks(world, sensors)
    check_log(world, sensors, log)
    return levels_of(looks, log)


def fits(world, sensors, log):
    """The standings that there can be at the last look of a log."""
    levels, fitting = _levels(world, sensors, log)
    return _in_order([levels.looks.standing_of(levels.state_at(at)) for at in fitting])


def clash_at(world, sensors, log):
    """The number of the first entry with which the entries up to it are those of no story, None if there is none."""
    looks = _looks(world, sensors)
    check_log(world, sensors, log)
    levels = Levels(looks)
    for at, entry in enumerate(log):
        fitting = levels.told(entry)
        if not fitting:
            return at
        if at + 1 < len(log):
            levels.go_on(fitting)
    return None


def surely(world, sensors, log, saying, is_so=True):
    """Whether a saying holds, or never does, in all that fits a log; and the paper, or a story where it is not so."""
    looks = _looks(world, sensors)
    check_log(world, sensors, log)
    check_saying(world.house, saying)
    levels, fitting = levels_of(looks, log)
    for at in fitting:
        if looks.says(saying, levels.state_at(at)) != is_so:
            return False, levels.story(at)
    return True, tuple([_in_order([looks.watched_of(entry[0]) for entry in walk]) for walk in levels.walks()])


def _are_closed(looks, log, states):
    """Whether rows of states have what steps and deeds make of them, the first one too."""
    if looks.first_state not in states[0]:
        return False
    for at, entry in enumerate(log):
        for state in states[at]:
            if not all([behind in states[at] for _, behind, _ in looks.moves(state)]):
                return False
            if at + 1 < len(log) and (entry is None or looks.entry_of(state) == entry):
                behind = looks.behind(state)
                if behind is not None and behind not in states[at + 1]:
                    return False
    return True


def sure_holds(world, sensors, log, saying, is_so, value):
    """Whether any value is a closed paper that a saying holds, or never does, in all that fits a log."""
    looks = _looks(world, sensors)
    check_log(world, sensors, log)
    check_saying(world.house, saying)
    if not isinstance(value, tuple) or len(value) != len(log):
        return False
    states = []
    for at, part in enumerate(value):
        if not isinstance(part, tuple) or not all([looks.is_watched(one) and one[2] == at for one in part]):
            return False
        states.append({looks.state_of(one): True for one in part})
    if not _are_closed(looks, log, states):
        return False
    told = [state for state in states[-1] if log[-1] is None or looks.entry_of(state) == log[-1]]
    return all([looks.says(saying, state) == is_so for state in told])


def sure_for_ever(world, sensors, log, saying, is_so=True):
    """As `surely`, whatever guests do from then on: all standings that come, or a story where it is not so."""
    looks = _looks(world, sensors)
    check_log(world, sensors, log)
    check_saying(world.house, saying)
    levels, fitting = levels_of(looks, log)
    dark = Looks(world, ())
    # Nothing is lit here: what the bells tell from now on does not matter.
    starts = {}
    for at in fitting:
        row, places, hand = looks.standing_of(levels.state_at(at))
        starts.setdefault(dark.state_of((row, places, hand, ())), at)
    met = dark.walk(list(starts))
    for number, entry in enumerate(met):
        if dark.says(saying, entry[0]) != is_so:
            first = met[root_of(met, number)][0]
            return False, (*levels.story(starts[first]), *[dark.what_of(label) for label in labels_to(met, number)])
    return True, _in_order([dark.standing_of(entry[0]) for entry in met])


def _bad_of(levels, found):
    """Those of the entries at a look with which somebody may be in the part that the next deed asks to be empty."""
    return [entry for entry in found if any([levels.looks.is_asked(levels.state_at(at)) for at in found[entry]])]


def _good_of(found, bad):
    """The entries at a look that are not bad."""
    return [entry for entry in found if entry not in bad]


def _go_on_well(levels, found):
    """Do the next deed at the good ones of the entries at a look."""
    good = _good_of(found, _bad_of(levels, found))
    levels.go_on([at for entry in good for at in found[entry]])


def good_entries(world, sensors):
    """For each deed the good and the bad entries, of those that come if each deed ahead is done at good ones."""
    levels = Levels(_looks(world, sensors))
    pairs = []
    for at in range(len(world.plan.deeds)):
        if at > 0:
            _go_on_well(levels, levels.all_told())
        found = levels.all_told()
        bad = _bad_of(levels, found)
        pairs.append((tuple(sorted(_good_of(found, bad))), tuple(sorted(bad))))
    return tuple(pairs)


def bad_story(world, sensors, at, entry):
    """Some story to a bad entry ahead of a deed, and to somebody in its part; None for an entry that is not bad."""
    looks = _looks(world, sensors)
    if not is_below(at, len(world.plan.deeds)):
        raise Refused(at)
    levels = Levels(looks)
    for _ in range(at):
        _go_on_well(levels, levels.all_told())
    found = levels.all_told()
    if not is_entry(sensors, entry) or entry not in _bad_of(levels, found):
        return None
    return levels.story([number for number in found[entry] if looks.is_asked(levels.state_at(number))][0])


def _check_many(world, many):
    """Refused for any value that is no number up to that of deeds."""
    if not is_below(many, len(world.plan.deeds) + 1):
        raise Refused(many)


def undecided(world, sensors, saying, many):
    """Some pair of stories with one log, the saying holding behind the first one alone; None if there is none."""
    looks = _looks(world, sensors)
    check_saying(world.house, saying)
    _check_many(world, many)
    return undecided_pair(looks, saying, many)


def least_sensors(world, choice, saying, many):
    """The least lots of sensors that always tell a saying, and the greatest ones that don't, with pairs of stories."""
    check_sensors(world.house, choice)
    check_saying(world.house, saying)
    _check_many(world, many)
    if len(choice) > MOST_SENSORS:
        raise InvalidSize("choice")
    ground = Ground(world.house, world.kinds)
    sensors = list(choice)
    telling = []
    others = []
    for size in range(len(sensors) + 1):
        for lot in combinations(sensors, size):
            if any([is_within(one, lot) for one in telling]):
                continue
            pair = undecided_pair(Looks(world, lot, ground), saying, many)
            if pair is None:
                telling.append(lot)
            else:
                others.append((lot, *pair))
    lots = [triple[0] for triple in others]
    greatest = [one for one in others if not any([is_within(one[0], lot) for lot in lots if lot != one[0]])]
    return tuple(telling), tuple(greatest)
