"""The errors of the package."""


class LightError(Exception):
    """The base class of the errors, but for NoName."""


class InvalidHouse(LightError):
    """A part, a door or a cell is wrong."""

    def __init__(self, at):
        self.at = at


class InvalidGuest(LightError):
    """A kind of guests, or a row of it, is wrong."""

    def __init__(self, at):
        self.at = at


class InvalidPlan(LightError):
    """A plan, or a deed of it, is wrong."""

    def __init__(self, at):
        self.at = at


class InvalidStory(LightError):
    """A thing in a story is no event, or no deed."""

    def __init__(self, at):
        self.at = at


class InvalidLot(LightError):
    """A lot, a place or a standing is none."""

    def __init__(self, at):
        self.at = at


class InvalidOrder(LightError):
    """A thing in an order does not fit."""

    def __init__(self, at):
        self.at = at


class InvalidSensor(LightError):
    """A thing in a row of sensors is none."""

    def __init__(self, at):
        self.at = at


class InvalidLog(LightError):
    """An entry of a log is none."""

    def __init__(self, at):
        self.at = at


class InvalidText(LightError):
    """A row of a text has not the form that it should have."""

    def __init__(self, at):
        self.at = at


class InvalidSize(LightError):
    """What the word tells is not of the size or kind that is asked."""

    def __init__(self, word):
        self.word = word


class InvalidCommand(LightError):
    """A command has none of the forms."""

    def __init__(self):
        pass


class Refused(LightError):
    """This can't be done there."""

    def __init__(self, at):
        self.at = at


class NoName(KeyError):
    """Nothing has this name."""

    def __init__(self, name):
        self.name = name
