"""Desks: commands to live worlds, and their answers."""

from lightsout.errors import InvalidCommand
from lightsout.least import least_guests
from lightsout.live import Live

BETWEEN = " ; "
NEVER = "never"


def _is_number(word):
    """Whether a word tells a number: one or two digits without a 0 ahead."""
    if not 1 <= len(word) <= 2 or not all(["0" <= sign <= "9" for sign in word]):
        return False
    return word == "0" or word[0] != "0"


def _thing_of(word):
    """The number that a word tells, or the word."""
    return int(word) if _is_number(word) else word


def _harms_told(harms):
    """What is told of harms."""
    return BETWEEN.join([" ".join(harm) for harm in harms]) if harms else "-"


def _change_told(change):
    """What is told of the harms that are new and of those that are gone."""
    new, gone = change
    rows = ["+" + " ".join(harm) for harm in new] + ["-" + " ".join(harm) for harm in gone]
    return BETWEEN.join(rows) if rows else "="


def _put(live, words):
    return _change_told(live.put_in(int(words[0]), (words[1], words[2])))


def _take(live, words):
    return _change_told(live.take_out(int(words[0])))


def _turn(live, words):
    return _change_told(live.turn(words[0]))


def _keep(live, words):
    return _change_told(live.keep(words[0]))


def _write(live, words):
    return _change_told(live.write(words[0], int(words[1]), tuple([_thing_of(word) for word in words[2:]])))


def _least(live, words):
    told = least_guests(live.world, (words[0], words[1]))
    return NEVER if told is None else " ".join([str(cap) for cap in told[0]])


def _story(live, words):
    told = least_guests(live.world, (words[0], words[1]))
    return NEVER if told is None else BETWEEN.join(told[1])


def _text(live, _):
    return live.world.text().replace("\n", BETWEEN)


def _undo(live, _):
    return "undone" if live.undo() else "nothing"


def _harms(live, _):
    return _harms_told(live.harms)


# What stands behind the first word of each command: N a number, W a word, + a word or more. Each action takes the live
# world and these words.
FORMS = {
    "put": "NWW", "take": "N", "turn": "W", "keep": "W", "write": "WN+", "least": "WW", "story": "WW", "text": "",
    "undo": "", "harms": "",
}
ACTIONS = {
    "put": _put, "take": _take, "turn": _turn, "keep": _keep, "write": _write, "least": _least, "story": _story,
    "text": _text, "undo": _undo, "harms": _harms,
}


def _fits(form, words):
    """Whether words have a form."""
    if len(words) != len(form) and (not form.endswith("+") or len(words) < len(form)):
        return False
    return all([sign != "N" or _is_number(word) for sign, word in zip(form, words)])


class Desk:
    """A live world, if one has begun, to which commands are said."""

    def __init__(self):
        self.live = None

    def say(self, command):
        """Do what a command tells, and tell the answer."""
        if not isinstance(command, str) or "\n" in command:
            raise InvalidCommand()
        words = command.split(" ")
        if "" in words:
            raise InvalidCommand()
        if words[0] == "world" and len(words) > 1:
            return self._begin(command[len("world "):])
        if self.live is None or words[0] not in FORMS or not _fits(FORMS[words[0]], words[1:]):
            raise InvalidCommand()
        action = ACTIONS[words[0]]
        return action(self.live, words[1:])

    def _begin(self, text):
        """Begin with the world of a text."""
        self.live = Live.read(text.replace(BETWEEN, "\n"))
        return _harms_told(self.live.harms)
