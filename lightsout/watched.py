"""One guest who is watched, what the others do around him, and graphs of what can come."""

from lightsout.guests import step
from lightsout.lots import come_to, gone_from, guest_moves

WATCHED = ("watched",)


def others_of(caps, places, place):
    """The places of the others around a watched one: where any number may stand, others stand beside him."""
    return places if caps[place[0]] is None else gone_from(places, place)


def with_him(caps, others, place):
    """The places of the others and of a watched one."""
    return others if caps[place[0]] is None else come_to(caps, others, place)


def own_step(world, caps, row, others, place):
    """The house row, the others' places and his own behind the step of a watched one; None if he has none without harm.

    Where any number may stand, others stay at his old place, and come with him to the new one.
    """
    told = step(world.house, world.kinds, row, place)
    if told is None or told[2] is not None:
        return None
    after, to, _ = told
    return after, others if caps[place[0]] is not None else come_to(caps, others, to), to


def watched_moves(world, caps, triple):
    """The pairs (what, triple behind it) of a watched one: the others' moves, but none by which all leave, and his."""
    row, places, place = triple
    others = others_of(caps, places, place)
    found = []
    for what, after, lot, harm in guest_moves(world.house, world.kinds, caps, row, others):
        is_all = what[2] and caps[what[1][0]] is None
        if harm is None and not is_all:
            found.append((what, (after, with_him(caps, lot, place), place)))
    done = own_step(world, caps, row, others, place)
    if done is not None:
        after, lot, to = done
        found.append((WATCHED, (after, with_him(caps, lot, to), to)))
    return found


def free_moves(world, caps, pair):
    """The pairs (what, house row and places behind it) of all moves of guests without a harm."""
    found = guest_moves(world.house, world.kinds, caps, pair[0], pair[1])
    return [(what, (after, lot)) for what, after, lot, harm in found if harm is None]


def is_empty(pair, part):
    """Whether nobody is in a part."""
    return part not in [place[2] for place in pair[1]]


def graph_from(firsts, moves):
    """For each state that comes from the first ones what `moves` gives: its pairs (label, state)."""
    graph = {}
    left = list(firsts)
    while left:
        state = left.pop()
        if state in graph:
            continue
        graph[state] = moves(state)
        for _, behind in graph[state]:
            if behind not in graph:
                left.append(behind)
    return graph


def ranks_of(graph, is_goal):
    """For each state of a graph from which a goal can be come to how many moves it is away at least."""
    ahead = {}
    ranks = {}
    met = []
    for state, pairs in graph.items():
        for _, behind in pairs:
            ahead.setdefault(behind, []).append(state)
        if is_goal(state):
            ranks[state] = 0
            met.append(state)
    at = 0
    while at < len(met):
        behind = met[at]
        for state in ahead.get(behind, []):
            if state not in ranks:
                ranks[state] = ranks[behind] + 1
                met.append(state)
        at += 1
    return ranks


def way_along(graph, ranks, state):
    """The labels of some shortest row of moves from a state to a goal."""
    labels = []
    while ranks[state] > 0:
        found = [pair for pair in graph[state] if ranks.get(pair[1]) == ranks[state] - 1]
        label, state = found[0]
        labels.append(label)
    return tuple(labels)
