"""Orders of deeds, rounds, and how many hands do them."""

from itertools import combinations, permutations

from lightsout.basics import is_below, is_integer, is_sequence
from lightsout.errors import InvalidOrder, InvalidSize

MOST_DEEDS = 6


def check_many(many):
    """InvalidSize for any value that is no number of deeds."""
    if not is_below(many, MOST_DEEDS + 1):
        raise InvalidSize("deeds")


def _is_pair(value, many):
    """Whether any value is a sequence of two different numbers of deeds."""
    if not is_sequence(value) or len(value) != 2:
        return False
    return is_below(value[0], many) and is_below(value[1], many) and value[0] != value[1]


def follows(many, pairs):
    """The ascending tuple of the pairs that follow from any value that is an order of so many deeds."""
    if not is_sequence(pairs):
        raise InvalidOrder(0)
    for at, pair in enumerate(pairs):
        if not _is_pair(pair, many):
            raise InvalidOrder(at)
    behind = _behind(many, pairs)
    if any([behind[one][one] for one in range(many)]):
        raise InvalidOrder(len(pairs))
    return tuple([(one, other) for one in range(many) for other in range(many) if behind[one][other]])


def _behind(many, pairs):
    """For each deed whether each deed is come to from it by pairs one behind another."""
    behind = [[False] * many for _ in range(many)]
    for one, other in pairs:
        behind[one][other] = True
    for mid in range(many):
        for one in range(many):
            for other in range(many):
                if behind[one][mid] and behind[mid][other]:
                    behind[one][other] = True
    return behind


def covers(pairs):
    """Those of the pairs that follow that no third deed parts."""
    parted = {(one, last): True for one, mid in pairs for other, last in pairs if mid == other}
    return tuple([pair for pair in pairs if pair not in parted])


def all_pairs(pairs):
    """The pairs that follow from an order."""
    return follows(MOST_DEEDS, pairs)


def cover_pairs(pairs):
    """The fewest pairs from which the same follow."""
    return covers(follows(MOST_DEEDS, pairs))


def rows_along(many, pairs):
    """All rows of the deeds along an order."""
    check_many(many)
    later = follows(many, pairs)
    rows = []
    for row in permutations(range(many)):
        if all([row.index(one) < row.index(other) for one, other in later]):
            rows.append(row)
    return tuple(rows)


def order_of_cut(many, cut):
    """The covers of the order in which one round is done behind another."""
    check_many(many)
    if not is_sequence(cut):
        raise InvalidOrder(0)
    begins = [0]
    for at, begin in enumerate(cut):
        if not is_integer(begin) or not begins[-1] < begin < many:
            raise InvalidOrder(at)
        begins.append(begin)
    ends = [*begins[1:], many]
    rounds = [list(range(begin, end)) for begin, end in zip(begins, ends)]
    pairs = [(one, other) for lot, after in zip(rounds, rounds[1:]) for one in lot for other in after]
    return tuple(sorted(pairs))


def _chain(lot, later):
    """The deeds of a lot, any two of which follow one another, one behind another."""
    ranks = sorted([(len([other for other in lot if (other, one) in later]), one) for one in lot])
    return tuple([one for _, one in ranks])


def _are_apart(one, other, later):
    """Whether two deeds are no pair that follows, either way."""
    return (one, other) not in later and (other, one) not in later


def _shares(many, later):
    """All ways to share the deeds out among hands; lots of deeds any two of which follow one another."""
    shares = [[]]
    for one in range(many):
        longer = []
        for share in shares:
            longer.append([*share, [one]])
            for at, lot in enumerate(share):
                if not any([_are_apart(one, other, later) for other in lot]):
                    longer.append([*share[:at], [*lot, one], *share[at + 1:]])
        shares = longer
    return shares


def least_hands(many, pairs):
    """The least way to share the deeds out among as few hands as can be."""
    check_many(many)
    later = follows(many, pairs)
    shares = _shares(many, later)
    fewest = min([len(share) for share in shares])
    return min([tuple(sorted([_chain(lot, later) for lot in share])) for share in shares if len(share) == fewest])


def widest_lot(many, pairs):
    """The least of the greatest lots of deeds no two of which are a pair that follows."""
    check_many(many)
    later = follows(many, pairs)
    for size in range(many, 0, -1):
        for lot in combinations(range(many), size):
            if all([_are_apart(one, other, later) for one in lot for other in lot if one < other]):
                return lot
    return ()


def _neighbours(many, later, chains):
    """The pairs of neighbours in any value that is a row of chains."""
    if not is_sequence(chains):
        raise InvalidOrder(0)
    taken = []
    pairs = []
    for at, chain in enumerate(chains):
        if not _is_chain(chain, many, later) or any([one in taken for one in chain]):
            raise InvalidOrder(at)
        taken.extend(chain)
        pairs.extend(list(zip(chain, chain[1:])))
    if len(taken) < many:
        raise InvalidOrder(len(chains))
    return pairs


def _is_chain(value, many, later):
    """Whether any value is a sequence of deeds, each and the next one a pair that follows."""
    if not is_sequence(value) or not value or not all([is_below(one, many) for one in value]):
        return False
    return all([pair in later for pair in zip(value, value[1:])])


def hand_waits(many, pairs, chains):
    """The covers that are not neighbours in a chain."""
    check_many(many)
    later = follows(many, pairs)
    near = _neighbours(many, later, chains)
    return tuple([pair for pair in covers(later) if pair not in near])
