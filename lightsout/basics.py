"""What the modules share: forms of values, searches in breadth, and classes of alike states."""

from itertools import combinations


def is_integer(value):
    """Whether any value is an integer."""
    return isinstance(value, int) and not isinstance(value, bool)


def is_number(value):
    """Whether any value is an integer from 0 on."""
    return is_integer(value) and value >= 0


def is_below(value, many):
    """Whether any value is a number below this one."""
    return is_number(value) and value < many


def is_sequence(value):
    """Whether any value may be passed where a sequence is expected."""
    return isinstance(value, (list, tuple))


def is_name(value):
    """Whether any value is a name."""
    if not isinstance(value, str) or not 1 <= len(value) <= 8 or value == "out":
        return False
    return all(["a" <= sign <= "z" for sign in value])


def is_same(one, other):
    """Whether two values are equal, also within tuples and lists, where no bool is equal to a number."""
    if is_sequence(one) and is_sequence(other):
        if isinstance(one, tuple) != isinstance(other, tuple) or len(one) != len(other):
            return False
        return all([is_same(part, more) for part, more in zip(one, other)])
    return isinstance(one, bool) == isinstance(other, bool) and one == other


def is_within(lot, other):
    """Whether all of a lot is in another one."""
    return all([one in other for one in lot])


def subsets(many):
    """All lots of so many numbers, those of fewer first."""
    return [lot for size in range(many + 1) for lot in list(combinations(range(many), size))]


def replaced(row, at, value):
    """The tuple with another value at a number."""
    return row[:at] + (value,) + row[at + 1:]


def search(first, moves, is_goal):
    """What is met in breadth from a state, up to the first goal, which is last then.

    `moves` gives for a state its pairs (label, state). Each entry is (state, number of the entry ahead, label).
    """
    met = [(first, -1, None)]
    if is_goal(first):
        return met
    seen = {first: True}
    at = 0
    while at < len(met):
        pairs = moves(met[at][0])
        for label, state in pairs:
            if state in seen:
                continue
            seen[state] = True
            met.append((state, at, label))
            if is_goal(state):
                return met
        at += 1
    return met


def reach(first, moves):
    """All states that moves lead to, in breadth, the first one too."""
    return [entry[0] for entry in search(first, moves, lambda state: False)]


def labels_to(met, at):
    """The labels of the moves that lead to an entry of a search."""
    labels = []
    while met[at][1] >= 0:
        labels.append(met[at][2])
        at = met[at][1]
    return tuple(labels[::-1])


def labels_to_last(met):
    """The labels of the moves that lead to the last entry of a search."""
    return labels_to(met, len(met) - 1)


def way_to(first, moves, is_goal):
    """The labels of the least row of moves to a goal, the fewest first; None if none leads there."""
    met = search(first, moves, is_goal)
    if not is_goal(met[-1][0]):
        return None
    return labels_to_last(met)


def masks_of(classes):
    """For each class the number whose bits are its states."""
    masks = [0] * (max(classes) + 1)
    for state, number in enumerate(classes):
        masks[number] += 1 << state
    return masks


def class_rounds(firsts, shown):
    """Rows of the classes of states, each row told apart by what is shown to the classes of the one ahead.

    `firsts` tells first classes, numbered from 0 on without a gap; `shown` for each state its pairs
    (label, number whose bits are states), ascending by label. The last row parts no more than the one ahead.
    """
    rounds = [list(firsts)]
    while len(rounds) == 1 or max(rounds[-1]) > max(rounds[-2]):
        masks = masks_of(rounds[-1])
        signs = {}
        found = []
        for state, pairs in enumerate(shown):
            sign = [(label, number) for label, bits in pairs for number, mask in enumerate(masks) if bits & mask]
            found.append(signs.setdefault((rounds[-1][state], tuple(sign)), len(signs)))
        rounds.append(found)
    return rounds


def alike_classes(firsts, shown):
    """The class of each state, numbered by their first states; alike ones show the same labels to the same classes."""
    return class_rounds(firsts, shown)[-1]


def walk_lengths(firsts, moves):
    """For each state that comes how many moves the longest walk to it has, None if there are walks of any length.

    `moves` gives for a state the states behind it, each once.
    """
    behind = {}
    left = list(firsts)
    while left:
        state = left.pop()
        if state not in behind:
            behind[state] = moves(state)
            left.extend([other for other in behind[state] if other not in behind])
    waits = {state: 0 for state in behind}
    for state in behind:
        for other in behind[state]:
            waits[other] += 1
    longest = {state: 0 for state in behind}
    ready = [state for state in behind if waits[state] == 0]
    at = 0
    while at < len(ready):
        state = ready[at]
        for other in behind[state]:
            longest[other] = max(longest[other], longest[state] + 1)
            waits[other] -= 1
            if waits[other] == 0:
                ready.append(other)
        at += 1
    return {state: longest[state] if waits[state] == 0 else None for state in behind}
