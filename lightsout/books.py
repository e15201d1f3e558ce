"""Books: sheets that hold, and what follows from them."""

from lightsout.basics import is_below
from lightsout.checker import PART_SHEETS, sheet_holds
from lightsout.errors import Refused
from lightsout.lots import harms_of, is_caps


def _is_sheet(value):
    """Whether any value is a triple."""
    return isinstance(value, tuple) and len(value) == 3


def let_as_many(caps, others):
    """Whether caps let as many guests of each kind as others."""
    return all([cap is None or other is not None and cap >= other for cap, other in zip(caps, others)])


def _is_question(world, claim, question):
    """Whether any value is a question of any claim."""
    if not isinstance(claim, str) or not isinstance(question, tuple) or not question:
        return False
    if not is_caps(world, question[-1]):
        return False
    if claim == "calm":
        return len(question) == 1
    if len(question) != 2:
        return False
    if claim in ("can", "never"):
        return question[0] in harms_of(world.house)
    return claim in PART_SHEETS and question[0] in world.house.parts


def _follows(claim, question, sheet):
    """Whether a claim follows from a sheet that holds."""
    kind, asked, _ = sheet
    if claim == "can":
        return kind in ("story", "lots") and asked[0] == question[0] and let_as_many(question[1], asked[1])
    if kind == "calm":
        return claim in ("never", "calm") and let_as_many(asked[-1], question[-1])
    if kind == "never" and claim == "never":
        return asked[0] == question[0] and let_as_many(asked[1], question[1])
    return kind == claim and asked == question


def _first_of(sheet, many):
    """The value of a sheet that holds for the plan's first deeds alone, None if it tells nothing of them."""
    kind, _, value = sheet
    if kind in ("never", "calm"):
        return tuple([standing for standing in value if standing[2] <= many])
    if kind not in ("story", "lots"):
        return None
    done = [what for what in value if what in ("hand", ("hand",))]
    return value if len(done) <= many else None


class Book:
    """The sheets of a world that have been put in, and hold."""

    def __init__(self, world):
        self.world = world
        self.sheets = ()

    def put(self, sheet):
        """Keep any value that is a sheet and holds, and tell whether it is kept."""
        if not _is_sheet(sheet) or not sheet_holds(self.world, sheet[0], sheet[1], sheet[2]):
            return False
        self.sheets = (*self.sheets, sheet)
        return True

    def knows(self, claim, question):
        """The first sheet from which a claim follows, None if there is none; for any values."""
        if not _is_question(self.world, claim, question):
            return None
        for sheet in self.sheets:
            if _follows(claim, question, sheet):
                return sheet
        return None

    def first_deeds(self, sheet, many):
        """A book for the plan's first deeds with what a sheet tells of them; None if that is nothing."""
        deeds = self.world.plan.deeds
        if not is_below(many, len(deeds) + 1):
            raise Refused(len(deeds))
        if not _is_sheet(sheet) or not sheet_holds(self.world, sheet[0], sheet[1], sheet[2]):
            return None
        value = _first_of(sheet, many)
        book = Book(self.world.with_plan(deeds[:many]))
        return book if value is not None and book.put((sheet[0], sheet[1], value)) else None
