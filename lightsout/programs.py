"""Programs of guests by themselves: deeds, answers, and kinds that are one."""

from lightsout.basics import alike_classes, reach, way_to
from lightsout.errors import InvalidGuest
from lightsout.guests import MOST_ROWS, is_program_row

REST = ("rest",)


def answers_of(deed):
    """The answers that a deed may have."""
    if deed[0] == "see":
        return 0, 1, 2
    return () if deed[0] == "rest" else ("done",)


def next_deed(kind, first, pocket):
    """The number of the row of the next deed from a row on, None for a rest."""
    at = first
    met = {}
    while at < len(kind.rows) and at not in met:
        met[at] = True
        row = kind.rows[at]
        if row[0] == "rest":
            return None
        if row[0] == "again":
            at = row[1]
        elif row[0] == "when":
            at = row[2] if pocket is not None and pocket[1] == row[1] else at + 1
        elif row[0] == "use" and (pocket is None or pocket[0] != row[1]):
            at += 1
        else:
            return at
    return None


def deed_from(kind, at, pocket):
    """The next deed from a row on."""
    found = next_deed(kind, at, pocket)
    return REST if found is None else kind.rows[found]


def pocket_behind(deed, pocket, answer):
    """What a pocket has behind a deed with an answer."""
    return (deed[1], answer) if deed[0] == "see" else pocket


def _moves_of(kind):
    """The function that gives what stands behind the next deed, by answers; a state is (row, pocket)."""
    def moves(state):
        """The pairs (answer, state)."""
        at, pocket = state
        found = next_deed(kind, at, pocket)
        told = deed_from(kind, at, pocket)
        return [(answer, (found + 1, pocket_behind(told, pocket, answer))) for answer in answers_of(told)]

    return moves


def least_form(kind):
    """The nodes (deed, numbers of the nodes behind it by answers), as they come."""
    moves = _moves_of(kind)
    states = reach((0, None), moves)
    numbers = {state: at for at, state in enumerate(states)}
    deeds = [deed_from(kind, at, pocket) for at, pocket in states]
    behind = [[numbers[after] for _, after in moves(state)] for state in states]
    firsts = [deeds.index(told) for told in deeds]
    kinds = sorted(set(firsts))
    shown = [tuple([(at, 1 << number) for at, number in enumerate(row)]) for row in behind]
    classes = alike_classes([kinds.index(first) for first in firsts], shown)
    nodes = []
    for state, number in enumerate(classes):
        if number == len(nodes):
            nodes.append((deeds[state], tuple([classes[other] for other in behind[state]])))
    return tuple(nodes)


def is_one(kind, other):
    """Whether two kinds do the same deeds in the same order, whatever is answered."""
    return least_form(kind) == least_form(other)


def _pair_moves(kind, other):
    """The function that gives what stands behind the next deed of both; a state is (row, row, pocket)."""
    def moves(state):
        """The pairs (answer, state)."""
        at, match, pocket = state
        told = deed_from(kind, at, pocket)
        one = next_deed(kind, at, pocket)
        two = next_deed(other, match, pocket)
        return [(answer, (one + 1, two + 1, pocket_behind(told, pocket, answer))) for answer in answers_of(told)]

    return moves


def pair_key(pair):
    """What rows of both kinds with a pocket, and what stands behind it, are ordered by: no pocket first."""
    at, match, pocket, *more = pair
    return (at, match, () if pocket is None else pocket, *more)


def one_pairs(kind, other):
    """The paper that two kinds are one: the rows and the pockets that come in both, or None."""
    if not is_one(kind, other):
        return None
    return tuple(sorted(reach((0, 0, None), _pair_moves(kind, other)), key=pair_key))


def answers_apart(kind, other):
    """The least row of answers behind which the deeds are unlike, None for kinds that are one."""
    def is_unlike(state):
        """Whether the next deeds are unlike."""
        return deed_from(kind, state[0], state[2]) != deed_from(other, state[1], state[2])

    return way_to((0, 0, None), _pair_moves(kind, other), is_unlike)


def can_do(kind, deed):
    """The least row of answers behind which a deed comes, None if it never does."""
    if not is_program_row(deed, MOST_ROWS) or deed[0] in ("when", "again", "rest"):
        raise InvalidGuest(0)
    told = tuple(deed)
    return way_to((0, None), _moves_of(kind), lambda state: deed_from(kind, state[0], state[1]) == told)
