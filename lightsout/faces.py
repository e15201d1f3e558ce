"""Inner houses, and the faces that they show to the rest."""

from lightsout.basics import alike_classes, is_below, is_integer, is_sequence, masks_of
from lightsout.errors import InvalidGuest, InvalidHouse, InvalidSize
from lightsout.guests import Kind, check_row, first_place, placed, step
from lightsout.house import House, first_row, turned
from lightsout.plans import Plan, check_deeds, deed

MOST_PARTS = 2
HIDDEN = ""


def _check_gates(house, gate_in, gate_out):
    """The errors of the gates of an inner house."""
    numbers = [house.number_of_door(gate_in), house.number_of_door(gate_out)]
    if gate_in == gate_out:
        raise InvalidHouse(numbers[0])
    for at, ends in enumerate(house.ends):
        if (-1 in ends) != (at in numbers):
            raise InvalidHouse(at)


def _is_inner_row(rows, at, gates):
    """Whether a row may stand there in the program of those who go through an inner house."""
    row = rows[at]
    if at == 0:
        return row == ("go", gates[0])
    if row[0] in ("again", "when"):
        return row[-1] != 0
    if row[0] == "go" and row[1] in gates:
        return at + 1 == len(rows) or rows[at + 1] == ("rest",)
    return True


def _unlike(rows):
    """The rows, each once, as they come."""
    return tuple({row: True for row in rows})


class Inner:
    """A house within another one, and the kind of guests who go through it by two gates."""

    def __init__(self, house, kind, gate_in, gate_out):
        if not isinstance(house, House):
            raise InvalidSize("house")
        if not isinstance(kind, Kind):
            raise InvalidSize("kind")
        if len(house.parts) > MOST_PARTS:
            raise InvalidSize("parts")
        _check_gates(house, gate_in, gate_out)
        for at, row in enumerate(kind.rows):
            check_row(house, row)
            if not _is_inner_row(kind.rows, at, (gate_in, gate_out)):
                raise InvalidGuest(at)
        self.house = house
        self.kind = kind
        self.gate_in = gate_in
        self.gate_out = gate_out

    def start(self):
        """The first standing: nobody is within."""
        return first_row(self.house), ()

    def comes_next(self, standing, deeds, turns):
        """The pairs (label, standing) that can come next, None behind a harm."""
        told = Plan(deeds).deeds
        check_deeds(self.house, told)
        found = self._comings(standing)
        for place in standing[1]:
            found.extend(self._steps(standing, place))
        found.extend(self._deeds(standing, told))
        if turns is True:
            gate = self.house.number_of_door(self.gate_out)
            for word in ("open", "shut"):
                found.append(("turn " + word, (turned(standing[0], gate, word == "open"), standing[1])))
        moves = [pair for pair in found if pair != (HIDDEN, standing)]
        return _unlike(sorted(moves, key=lambda pair: pair[0]))

    def _comings(self, standing):
        """What comes of one more guest who comes in."""
        row, places = standing
        told = step(self.house, (self.kind,), row, first_place(0))
        if told is None:
            return []
        if told[2] is not None:
            return [(" ".join(told[2]), None)]
        return [(HIDDEN, (told[0], _lot([*places, told[1]])))]

    def _steps(self, standing, place):
        """What comes of the step of those at a place: it stays taken, or is left."""
        row, places = standing
        told = step(self.house, (self.kind,), row, place)
        if told is None:
            return []
        after, to, harm = told
        if harm is not None:
            return [(" ".join(harm), None)]
        come = [] if to[2] == -1 else [to]
        label = HIDDEN
        if to[2] == -1 and self.kind.rows[place[1]][1] == self.gate_out:
            label = "out"
        found = [(label, (after, _lot([*places, *come])))]
        if to != place:
            left = [other for other in places if other != place]
            found.append((label, (after, _lot([*left, *come]))))
        return found

    def _deeds(self, standing, told):
        """What comes of each deed of the hand that can be done."""
        found = []
        for one in told:
            behind = deed(self.house, standing[0], standing[1], one)
            if behind is not None and behind[2] is not None:
                found.append((" ".join(behind[2]), None))
            elif behind is not None:
                found.append(("hand " + " ".join(one), (behind[0], _lot(behind[1]))))
        return found


def _lot(places):
    """The places in order, each once."""
    return placed(_unlike(places))


def _is_triple(value, states):
    """Whether any value is a triple of a state, a label and a state."""
    if not is_sequence(value) or len(value) != 3:
        return False
    return is_below(value[0], states) and isinstance(value[1], str) and is_below(value[2], states)


class Face:
    """A machine: how many states there are, and which shows which label to which."""

    def __init__(self, states, triples):
        if not is_integer(states) or states < 1:
            raise InvalidSize("states")
        if not is_sequence(triples) or not all([_is_triple(triple, states) for triple in triples]):
            raise InvalidSize("triples")
        shown = [(one, label, other) for one, label, other in triples if label != HIDDEN or one != other]
        self.states = states
        self.triples = tuple(sorted(_unlike(shown)))

    def __eq__(self, other):
        return isinstance(other, Face) and self.states == other.states and self.triples == other.triples

    def text(self):
        """A row for each triple."""
        return "".join([str(one) + ' "' + label + '" ' + str(other) + "\n" for one, label, other in self.triples])


def _bits_of(states):
    """The number whose bits are these states."""
    return sum([1 << state for state in sorted(set(states))])


def states_of(bits):
    """The states that are the bits of a number."""
    return [state for state in range(bits.bit_length()) if bits >> state & 1]


def _hidden_from(moves):
    """For each state the number whose bits are the states to which hidden moves lead, itself too."""
    found = []
    for state in range(len(moves)):
        met = [state]
        at = 0
        while at < len(met):
            met.extend(sorted({to for label, to in moves[met[at]] if label == HIDDEN and to not in met}))
            at += 1
        found.append(_bits_of(met))
    return found


def shown_by(moves):
    """What each state shows, of the pairs (label, state) of the moves of each: pairs (label, bits), ascending.

    The bits of the number are the states to which the label is shown.
    """
    hidden = _hidden_from(moves)
    direct = []
    for pairs in moves:
        labels = {}
        for label, to in pairs:
            if label != HIDDEN:
                labels[label] = labels.get(label, 0) | hidden[to]
        direct.append(labels)
    shown = []
    for bits in hidden:
        labels = {HIDDEN: bits}
        for mid in states_of(bits):
            for label, more in direct[mid].items():
                labels[label] = labels.get(label, 0) | more
        shown.append(tuple(sorted(labels.items())))
    return shown


def _face_of(moves):
    """The face of the classes of alike states, of the moves of each."""
    shown = shown_by(moves)
    classes = alike_classes([0] * len(moves), shown)
    masks = masks_of(classes)
    triples = []
    for number in range(len(masks)):
        for label, bits in shown[classes.index(number)]:
            triples.extend([(number, label, other) for other, mask in enumerate(masks) if bits & mask])
    return Face(len(masks), triples)


def least(machine):
    """The face of the classes of alike states of a face."""
    if not isinstance(machine, Face):
        raise InvalidSize("face")
    moves = [[] for _ in range(machine.states)]
    for one, label, other in machine.triples:
        moves[one].append((label, other))
    return _face_of(moves)


def _walk(inner, deeds, turns, most):
    """For each standing that comes its moves, by numbers of standings; the end has none."""
    met = [inner.start()]
    numbers = {met[0]: 0}
    moves = []
    while len(moves) < len(met):
        standing = met[len(moves)]
        pairs = [] if standing is None else inner.comes_next(standing, deeds, turns)
        for _, behind in pairs:
            if behind not in numbers:
                numbers[behind] = len(met)
                met.append(behind)
            if len(met) > most:
                raise InvalidSize("standings")
        moves.append([(label, numbers[behind]) for label, behind in pairs])
    return moves


def face(inner, deeds, turns, most=300):
    """The face of an inner house: what the rest can see of it."""
    if not isinstance(inner, Inner):
        raise InvalidSize("inner")
    told = Plan(deeds).deeds
    check_deeds(inner.house, told)
    return _face_of(_walk(inner, told, turns, most))
