"""What a harm needs: kinds, deeds, and other harms."""

from lightsout.basics import is_below, is_same, is_within, labels_to, subsets
from lightsout.closed import closed_holds
from lightsout.errors import InvalidSize
from lightsout.ground import check_met
from lightsout.lots import Lots, any_number, check_caps, checked_harm, first_standing, harms_of, led_along, moves_from

MOST_DEEDS = 5


class Verdict:
    """Whats that lead to a harm, or a paper that it never comes."""

    def __init__(self, whats, paper):
        self.whats = whats
        self.paper = paper

    def is_like(self, other):
        """Whether any value is a verdict with equal attributes."""
        return isinstance(other, Verdict) and is_same((self.whats, self.paper), (other.whats, other.paper))


class Least:
    """The least lots with which a harm comes, and lots with which it does not, with whats and papers for each."""

    def __init__(self, lots, whats, barred, papers):
        self.lots = lots
        self.whats = whats
        self.barred = barred
        self.papers = papers

    def is_like(self, other):
        """Whether any value is such a thing with equal attributes."""
        if not isinstance(other, Least):
            return False
        own = (self.lots, self.whats, self.barred, self.papers)
        return is_same(own, (other.lots, other.whats, other.barred, other.papers))


class Meeting:
    """Whats to where two harms are one move away, or a paper that they never are."""

    def __init__(self, whats, both, paper):
        self.whats = whats
        self.both = both
        self.paper = paper

    def is_like(self, other):
        """Whether any value is a meeting with equal attributes."""
        if not isinstance(other, Meeting):
            return False
        return is_same((self.whats, self.both, self.paper), (other.whats, other.both, other.paper))


def harm_names(world):
    """All harms that events can do in a world."""
    return tuple(harms_of(world.house))


def comes_with(world, harm, caps):
    """Whats under caps the last of which does a harm, or a paper that none do."""
    check_caps(world, caps)
    told = checked_harm(world.house, harm)
    lots = Lots(world, caps, is_short=True)
    whats = lots.story(told)
    return Verdict(whats, lots.standings if whats is None else None)


def _trail(world, caps, whats):
    """The standings ahead of each what and behind the last one, and the harm of this; None for any value but whats."""
    if not isinstance(whats, tuple):
        return None
    standings, harm, at = led_along(world, caps, whats)
    return (standings, harm) if at is None else None


def _whats_hold(world, harm, caps, value):
    """Whether any value is whats under caps the last of which alone does a harm, this one."""
    trail = _trail(world, caps, value)
    return trail is not None and trail[1] == harm


def check_verdict(world, harm, caps, value):
    """Whether any value is a verdict on a harm under caps."""
    check_caps(world, caps)
    told = checked_harm(world.house, harm)
    if not isinstance(value, Verdict):
        return False
    if value.paper is None:
        return _whats_hold(world, told, caps, value.whats)
    return value.whats is None and closed_holds(world, caps, value.paper, told)


def _with_kinds(world, lot):
    """The world, and the caps in which guests of these kinds alone come."""
    return world, tuple([None if number in lot else 0 for number in range(len(world.kinds))])


def _with_deeds(world, lot):
    """The world of these deeds alone, and the caps in which any guests come."""
    return world.with_plan([world.plan.deeds[at] for at in lot]), any_number(world)


def _has_any(lot, lots):
    """Whether some lot of these is within a lot."""
    return any([is_within(one, lot) for one in lots])


def _greatest(lots):
    """Those of some lots that are within no other one."""
    return [lot for lot in lots if not any([is_within(lot, other) for other in lots if other != lot])]


def _sorted_out(many, verdict_of):
    """The verdicts on the least lots of so many with which a harm comes, and on all that hold none of them."""
    lots, barred = {}, {}
    for lot in subsets(many):
        if not _has_any(lot, lots):
            verdict = verdict_of(lot)
            if verdict.paper is None:
                lots[lot] = verdict
            else:
                barred[lot] = verdict
    return lots, barred


def _put_together(lots, barred, names):
    """What is told of the verdicts on lots, and on those of the barred ones that have these names."""
    ranked, out = sorted(lots), sorted(names)
    whats, papers = [lots[lot].whats for lot in ranked], [barred[lot].paper for lot in out]
    return Least(tuple(ranked), tuple(whats), tuple(out), tuple(papers))


def least_kinds(world, harm):
    """The least lots of kinds with which a harm comes, and the greatest ones with which it does not."""
    told = checked_harm(world.house, harm)

    def verdict_of(lot):
        """The verdict with these kinds alone."""
        return comes_with(world, told, _with_kinds(world, lot)[1])

    lots, barred = _sorted_out(len(world.kinds), verdict_of)
    return _put_together(lots, barred, _greatest(list(barred)))


def least_deeds(world, harm):
    """The least lots of deeds with which a harm comes, and all that hold none of them."""
    told = checked_harm(world.house, harm)
    if len(world.plan.deeds) > MOST_DEEDS:
        raise InvalidSize("deeds")

    def verdict_of(lot):
        """The verdict with these deeds alone."""
        fewer, caps = _with_deeds(world, lot)
        return comes_with(fewer, told, caps)

    lots, barred = _sorted_out(len(world.plan.deeds), verdict_of)
    return _put_together(lots, barred, list(barred))


def _is_lot(value, many):
    """Whether any value is a lot of numbers below one."""
    if not isinstance(value, tuple) or not all([is_below(one, many) for one in value]):
        return False
    return all([one < other for one, other in zip(value, value[1:])])


def _are_lots(value, proofs, many):
    """Whether any values are a tuple of lots, each with one thing more."""
    if not isinstance(value, tuple) or not isinstance(proofs, tuple) or len(value) != len(proofs):
        return False
    return all([_is_lot(lot, many) for lot in value])


def check_least(world, harm, of, value):
    """Whether any value tells the least lots of kinds or of deeds with which a harm comes."""
    told = checked_harm(world.house, harm)
    if not isinstance(of, str) or of not in ("kinds", "deeds"):
        raise InvalidSize("of")
    if not isinstance(value, Least):
        return False
    many = len(world.kinds) if of == "kinds" else len(world.plan.deeds)
    if not _are_lots(value.lots, value.whats, many) or not _are_lots(value.barred, value.papers, many):
        return False
    left = [lot for lot in subsets(many) if not _has_any(lot, value.lots)]
    if list(value.barred) != sorted(_greatest(left) if of == "kinds" else left):
        return False
    # Unlike ones in order, none within another one.
    if list(value.lots) != sorted(set(value.lots)) or len(_greatest(value.lots)) < len(value.lots):
        return False
    with_lot = _with_kinds if of == "kinds" else _with_deeds
    for lot, whats in zip(value.lots, value.whats):
        fewer, caps = with_lot(world, lot)
        if not _whats_hold(fewer, told, caps, whats):
            return False
    for lot, paper in zip(value.barred, value.papers):
        fewer, caps = with_lot(world, lot)
        if not closed_holds(fewer, caps, paper, told):
            return False
    return True


def _checked_pair(world, one, other):
    """Any values as two harms, if they are unlike ones."""
    pair = checked_harm(world.house, one), checked_harm(world.house, other)
    if pair[0] == pair[1]:
        raise InvalidSize("other")
    return pair


def _doers(world, standing):
    """For each harm that is one move away from a standing a what that does it."""
    found = {}
    for what, _, harm in moves_from(world, any_number(world), standing):
        if harm is not None:
            found.setdefault(harm, what)
    return found


def harms_meet(world, one, other):
    """Whats to a standing from which either of two harms is one move away, and who does them; or all standings."""
    pair = _checked_pair(world, one, other)
    lots = Lots(world, any_number(world))
    for number, standing in enumerate(lots.standings):
        doers = _doers(world, standing)
        if pair[0] in doers and pair[1] in doers:
            return Meeting(lots.way(number), (doers[pair[0]], doers[pair[1]]), None)
    return Meeting(None, None, lots.standings)


def check_meeting(world, one, other, value):
    """Whether any value is a meeting of two harms."""
    pair = _checked_pair(world, one, other)
    if not isinstance(value, Meeting):
        return False
    if value.paper is not None:
        due = harms_meet(world, pair[0], pair[1])
        return due.paper is not None and value.is_like(due)
    trail = _trail(world, any_number(world), value.whats)
    both = value.both
    if trail is None or trail[1] is not None or not isinstance(both, tuple) or len(both) != 2:
        return False
    return all([_whats_hold(world, harm, any_number(world), (*value.whats, what)) for harm, what in zip(pair, both)])


def only_behind(world, harm, other):
    """Whats to a harm that go by another one, or all standings that come before this is one move away."""
    asked, ahead = _checked_pair(world, harm, other)
    caps = any_number(world)
    met = [(first_standing(world, caps), -1, None)]
    seen = {met[0][0]: True}
    at = 0
    while at < len(met):
        doers = _doers(world, met[at][0])
        if ahead not in doers and asked in doers:
            return Verdict((*labels_to(met, at), doers[asked]), None)
        told = [] if ahead in doers else moves_from(world, caps, met[at][0])
        for what, behind, _ in told:
            if behind not in seen:
                seen[behind] = True
                met.append((behind, at, what))
                check_met(len(met))
        at += 1
    return Verdict(None, tuple([entry[0] for entry in met]))


def check_behind(world, harm, other, value):
    """Whether any value is a verdict on whether a harm comes only behind another one."""
    asked, ahead = _checked_pair(world, harm, other)
    if not isinstance(value, Verdict):
        return False
    if value.paper is not None:
        due = only_behind(world, asked, ahead)
        return due.paper is not None and value.is_like(due)
    trail = _trail(world, any_number(world), value.whats)
    if trail is None or trail[1] != asked:
        return False
    return not any([ahead in _doers(world, standing) for standing in trail[0]])
