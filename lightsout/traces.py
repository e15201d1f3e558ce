"""Traces: what a guest can tell of what he did and saw."""

from lightsout.basics import is_below, is_sequence, labels_to_last
from lightsout.crowds import by_numbers, goers, needs_of
from lightsout.errors import InvalidSize, InvalidStory, InvalidText, NoName, Refused
from lightsout.events import event_done, event_told, first_stage
from lightsout.sights import Sights, Tops
from lightsout.watched import WATCHED


def word_text(word):
    """The text of what a step shows: the number of the row, and the value that is seen, -1 for none."""
    row, value = word
    return str(row) if value < 0 else str(row) + ":" + str(value)


def _told_events(world, story):
    """What each event of any value tells that may be a story."""
    if not is_sequence(story):
        raise InvalidStory(-1)
    told = [event_told(world, event) for event in story]
    if None in told:
        raise InvalidStory(told.index(None))
    return told


def _shown(world, standing, place):
    """What the step of a guest who stands at a place shows."""
    told = world.kinds[place[0]].rows[place[1]]
    if told[0] != "see":
        return place[1], -1
    return place[1], standing[0][2][world.house.number_of_cell(told[1])]


def played(world, told):
    """What events lead to: the standing, pairs of guests and what their steps show, and the number of the first one
    that can't be done or does a harm, or None."""
    standing = first_stage(world)
    shown = []
    for at, event in enumerate(told):
        done = event_done(world, standing, event)
        if done is None or done[1] is not None:
            return standing, shown, at
        if event[0] == "step":
            shown.append((event[1], _shown(world, standing, standing[1][event[1]])))
        standing = done[0]
    return standing, shown, None


def trace_of(shown, guest):
    """The text of a guest's steps, of what `played` has told of all."""
    return " ".join([word_text(word) for one, word in shown if one == guest])


def trace(world, story, guest):
    """The text of a guest's steps in a story without a harm."""
    standing, shown, at = played(world, _told_events(world, story))
    if at is not None:
        raise Refused(at)
    if not is_below(guest, len(standing[1])):
        raise InvalidSize("guest")
    return trace_of(shown, guest)


def kind_number(world, name):
    """The number of a kind, for any value but its name NoName."""
    names = [kind.name for kind in world.kinds]
    if not isinstance(name, str) or name not in names:
        raise NoName(name)
    return names.index(name)


def _is_figure(sign, most):
    """Whether a word is one figure up to one."""
    return len(sign) == 1 and "0" <= sign <= most


def _word_of(part):
    """What a word of a text shows, None if it has not the form of one."""
    row, colon, value = part.partition(":")
    if not _is_figure(row, "9") or colon and not _is_figure(value, "2"):
        return None
    return int(row), int(value) if colon else -1


def words_of(text):
    """What the words of any value show, None for what has not the form of a trace."""
    if not isinstance(text, str):
        return None
    words = [_word_of(part) for part in text.split(" ")] if text else []
    return None if None in words else words


def _checked_words(text):
    """What the words of any value show, if it has the form of a trace."""
    words = words_of(text)
    if words is None:
        raise InvalidText(0)
    return words


def _search(sights, number, words):
    """What is met until a guest of a kind has shown all words: (sight and how many, number ahead, labels); or None."""
    labels, first = sights.grown(sights.bare(sights.first_of(number)))
    met = [((first, 0), -1, labels)]
    tops = Tops(sights)
    at = 0
    while at < len(met):
        sight, many = met[at][0]
        if many == len(words):
            return met[:at + 1]
        moves = [(label, behind, many) for label, behind in sights.unseen(sight)]
        told = sights.seen(sight)
        if told is not None and told[0] == words[many]:
            moves.append((WATCHED, told[1], many + 1))
        for label, behind, more in moves:
            labels, better = sights.grown(sights.bare(behind))
            if tops.put(better, more):
                met.append(((better, more), at, (label, *labels)))
        at += 1
    return None


def is_seen(world, kind, text):
    """Whether in some story some guest of a kind has a trace."""
    number = kind_number(world, kind)
    return _search(Sights(world), number, _checked_words(text)) is not None


def story_for(world, kind, text):
    """Some story by numbers in which guest 0 is of a kind and has a trace, None if there is none."""
    number = kind_number(world, kind)
    words = _checked_words(text)
    sights = Sights(world)
    met = _search(sights, number, words)
    if met is None:
        return None
    labels = [label for row in (met[0][2], *labels_to_last(met)) for label in row]
    standings = _standings_along(sights, number, labels)
    whats = [sights.what_of(label) for label in labels]
    comes, movers = needs_of(world, standings, whats, {})
    return by_numbers(world, comes, whats, goers(whats, movers), (number,))


def _standings_along(sights, number, labels):
    """The standings of the others ahead of each label and behind the last one; idle places may be left out."""
    sight = sights.bare(sights.first_of(number))
    found = [sights.sight_of(sight)[:3]]
    for label in labels:
        if label == WATCHED:
            behind = sights.seen(sight)[1]
        else:
            behind = [after for told, after in sights.unseen(sight) if told == label][0]
        sight = sights.bare(behind)
        found.append(sights.sight_of(sight)[:3])
    return found
