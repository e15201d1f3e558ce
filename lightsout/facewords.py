"""What is told of faces: sentences, alike states, and words."""

from lightsout.basics import class_rounds, is_below, labels_to_last
from lightsout.errors import InvalidSize
from lightsout.faces import HIDDEN, Face, shown_by, states_of


def _is_sentence(value):
    """Whether any value is a sentence."""
    if not isinstance(value, tuple) or len(value) < 2 or not isinstance(value[0], str):
        return False
    if value[0] == "not":
        return len(value) == 2 and _is_sentence(value[1])
    if value[0] != "can" or len(value) != 3 or not isinstance(value[1], str) or not isinstance(value[2], tuple):
        return False
    return all([_is_sentence(part) for part in value[2]])


def _check_face(value):
    """InvalidSize for any value that is no face."""
    if not isinstance(value, Face):
        raise InvalidSize("face")


def _shown(faces):
    """For each state of some faces, one behind another, what it shows: pairs (label, number whose bits are states)."""
    moves = []
    for machine in faces:
        first = len(moves)
        moves.extend([[] for _ in range(machine.states)])
        for one, label, other in machine.triples:
            moves[first + one].append((label, first + other))
    return shown_by(moves)


def _to(shown, state, label):
    """The number whose bits are the states to which a state shows a label."""
    return sum([bits for told, bits in shown[state] if told == label])


def _can(shown, label, inside):
    """The number whose bits are the states that show a label to a state of these bits."""
    return sum([1 << state for state in range(len(shown)) if _to(shown, state, label) & inside])


def _every(shown):
    """The number whose bits are all states."""
    return (1 << len(shown)) - 1


def _where(shown, sentence):
    """The number whose bits are the states at which a sentence holds."""
    if sentence[0] == "not":
        return _every(shown) ^ _where(shown, sentence[1])
    inside = _every(shown)
    for part in sentence[2]:
        inside &= _where(shown, part)
    return _can(shown, sentence[1], inside)


def holds(machine, state, sentence):
    """Whether a sentence holds at a state of a face."""
    _check_face(machine)
    if not is_below(state, machine.states):
        raise InvalidSize("state")
    if not _is_sentence(sentence):
        raise InvalidSize("sentence")
    return state in states_of(_where(_shown([machine]), sentence))


def _only_one(shown, classes, one, other):
    """A label that one state shows to a state to whose class the other shows it not, and that one; None for none."""
    for label, bits in shown[one]:
        met = [classes[state] for state in states_of(_to(shown, other, label))]
        for state in states_of(bits):
            if classes[state] not in met:
                return label, state
    return None


def _apart(shown, rounds, one, other):
    """A sentence of least depth that holds at one state, not at another, and the bits of where it holds.

    What is told apart in a round, a sentence of as great a depth tells apart.
    """
    depth = [at for at, classes in enumerate(rounds) if classes[one] != classes[other]][0]
    found = _only_one(shown, rounds[depth - 1], one, other)
    if found is None:
        sentence, bits = _apart(shown, rounds, other, one)
        return ("not", sentence), _every(shown) ^ bits
    label, to = found
    parts = []
    inside = _every(shown)
    for state in states_of(_to(shown, other, label)):
        if inside >> state & 1:
            part, bits = _apart(shown, rounds, to, state)
            parts.append(part)
            inside &= bits
    return ("can", label, tuple(parts)), _can(shown, label, inside)


def same_face(one, other):
    """Whether two faces are alike, and all pairs of alike states, or a sentence that tells the faces apart."""
    _check_face(one)
    _check_face(other)
    shown = _shown([one, other])
    rounds = class_rounds([0] * len(shown), shown)
    classes = rounds[-1]
    if classes[0] != classes[one.states]:
        return False, _apart(shown, rounds, 0, one.states)[0]
    pairs = [(state, to) for state in range(one.states) for to in range(other.states)]
    return True, tuple([(state, to) for state, to in pairs if classes[state] == classes[one.states + to]])


def _lots_behind(shown, lot):
    """For each label but the hidden one the number whose bits are the states to which those of a lot show it."""
    found = {}
    for state in states_of(lot):
        for label, bits in shown[state]:
            if label != HIDDEN:
                found[label] = found.get(label, 0) | bits
    return found


def _word_moves(shown, others, pair):
    """The pairs (label, pair of lots) behind a pair of lots, labels in order."""
    found, more = _lots_behind(shown, pair[0]), _lots_behind(others, pair[1])
    return [(label, (found.get(label, 0), more.get(label, 0))) for label in sorted({**found, **more})]


def same_words(one, other):
    """Whether two faces have the same words, and the pairs of lots they lead to, or a word of just one of them."""
    _check_face(one)
    _check_face(other)
    shown, others = _shown([one]), _shown([other])
    met = [((_to(shown, 0, HIDDEN), _to(others, 0, HIDDEN)), -1, None)]
    seen = {met[0][0]: True}
    at = 0
    while at < len(met):
        moves = _word_moves(shown, others, met[at][0])
        for label, pair in moves:
            if pair in seen:
                continue
            seen[pair] = True
            met.append((pair, at, label))
            if 0 in pair:
                return False, labels_to_last(met)
        at += 1
    return True, tuple(sorted([(tuple(states_of(lot)), tuple(states_of(more))) for lot, more in seen]))
