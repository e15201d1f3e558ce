"""[1] to [3], [94]: books of sheets, on [91] to [93]."""

import random
import unittest

from helpers import VALUES, bent, raised, random_world
from lightsout.books import Book
from lightsout.checker import sheet_holds
from lightsout.closed import closed_paper
from lightsout.ends import drains, for_ever, outs, shut_in
from lightsout.least import numbered
from lightsout.lots import Lots
from lightsout.plans import World
from slow import all_harms, none_of

WORLD = World.read("part p\ndoor d out p open\ncell c p\nkind a\ngo d\ngo d\nkind b\ngo d\nset c 1\ngo d\nplan\ndrain p\noff p\non p")
CALM = World.read("part p\ndoor d out p open\nkind a\ngo d\nplan\nshut d\ndrain p\noff p")
Y, IN = (0, 0, -1, None), (0, 1, 0, None)
INSIDE, DARK, STALE = ("inside", "p"), ("dark", "p"), ("stale", "c")


def lots_sheet(world, harm, caps):
    return "lots", (harm, caps), Lots(world, caps).story(harm)


def never_sheet(world, harm, caps):
    return "never", (harm, caps), closed_paper(world, caps, harm)


def calm_sheet(world, caps):
    return "calm", (caps,), Lots(world, caps).standings


class Puts(unittest.TestCase):
    def test_sheets_that_hold_are_kept_as_they_came(self):
        book = Book(world=WORLD)
        self.assertEqual((WORLD, ()), (book.world, book.sheets))
        one, two = lots_sheet(WORLD, INSIDE, (None, None)), never_sheet(WORLD, STALE, (None, None))
        self.assertIs(True, book.put(one))
        self.assertIs(True, book.put(sheet=two))
        self.assertIs(True, book.put(one))
        self.assertEqual((one, two, one), book.sheets)
        with self.assertRaises(TypeError):
            iter(book)

    def test_others_are_not(self):
        book = Book(WORLD)
        good = lots_sheet(WORLD, INSIDE, (None, None))
        for value in [*VALUES, list(good), good[:2], (*good, 0), *bent(good), ("story", *good[1:]), never_sheet(WORLD, STALE, (1, 1))[1:],
                      ("never", (INSIDE, (None, None)), Lots(WORLD, (None, None)).standings), ("calm", ((None, None),), ()),
                      ("lots", (DARK, (None, None)), good[2]), ("lots", good[1], good[2][:-1])]:
            if value != good:
                self.assertIs(False, book.put(value), value)
        self.assertEqual((), book.sheets)


class Knows(unittest.TestCase):
    def book(self, *sheets, world=WORLD):
        book = Book(world)
        for sheet in sheets:
            self.assertTrue(book.put(sheet), sheet)
        return book

    def test_can(self):
        story = ("story", (INSIDE, (2, 0)), ("come a", "hand", "step 0", "hand"))
        lots = lots_sheet(WORLD, INSIDE, (0, 1))
        book = self.book(story, lots)
        for caps, sheet in [((2, 0), story), ((3, 0), story), ((None, 0), story), ((2, 5), story), ((None, None), story), ((0, 1), lots),
                            ((1, 1), lots), ((1, None), lots), ((1, 0), None), ((0, 0), None)]:
            self.assertEqual(sheet, book.knows("can", (INSIDE, caps)), caps)
            self.assertIsNone(book.knows("can", (DARK, caps)))
            self.assertIsNone(book.knows("never", (INSIDE, caps)))
        any_number = self.book(lots_sheet(WORLD, INSIDE, (None, 0)))
        self.assertIsNone(any_number.knows("can", (INSIDE, (100, 0))))
        self.assertIsNone(any_number.knows("can", (INSIDE, (100, None))))
        self.assertEqual(any_number.sheets[0], any_number.knows(claim="can", question=(INSIDE, (None, 7))))

    def test_never(self):
        never, calm = never_sheet(WORLD, STALE, (2, None)), calm_sheet(WORLD, (0, 0))
        book = self.book(calm, never)
        for caps, sheet in [((2, None), never), ((1, 7), never), ((0, 0), calm), ((0, 1), never), ((3, 0), None), ((None, 0), None)]:
            self.assertEqual(sheet, book.knows("never", (STALE, caps)), caps)
        self.assertEqual(calm, book.knows("never", (INSIDE, (0, 0))))
        self.assertIsNone(book.knows("never", (INSIDE, (0, 1))))
        self.assertIsNone(book.knows("can", (STALE, (2, None))))

    def test_calm(self):
        calm = calm_sheet(CALM, (None,))
        few = calm_sheet(CALM, (2,))
        never = never_sheet(CALM, INSIDE, (None,))
        book = self.book(never, few, calm, world=CALM)
        for caps, sheet in [((2,), few), ((1,), few), ((3,), calm), ((None,), calm)]:
            self.assertEqual(sheet, book.knows("calm", (caps,)), caps)
        self.assertEqual(never, book.knows("never", (INSIDE, (2,))))
        self.assertEqual(few, book.knows("never", (DARK, (2,))))
        self.assertEqual(calm, book.knows("never", (DARK, (9,))))
        self.assertIsNone(self.book(never, world=CALM).knows("calm", ((None,),)))

    def test_the_last_four_kinds(self):
        shut = World.read("part p\ndoor d out p open\nkind a\ngo d\nplan\nshut d")
        end = shut_in(shut, "p")
        sheet = ("shut in", ("p", (None,)), end)
        book = self.book(sheet, world=shut)
        self.assertEqual(sheet, book.knows("shut in", ("p", (None,))))
        self.assertIsNone(book.knows("shut in", ("p", (1,))))
        self.assertIsNone(book.knows("comes out", ("p", (None,))))
        out = World.read("part p\ndoor d out p open\nkind a\ngo d\ngo d\nplan\ndrain p")
        ways, passes = ("comes out", ("p", (None,)), outs(out, "p")), ("passes", ("p", (None,)), drains(out, "p"))
        book = self.book(ways, passes, world=out)
        self.assertEqual(ways, book.knows("comes out", ("p", (None,))))
        self.assertEqual(passes, book.knows("passes", ("p", (None,))))
        self.assertIsNone(book.knows("for ever", ("p", (None,))))
        stuck = World.read("part p\ndoor d out p open\nkind a\ngo d\nplan\ndrain p")
        stay = ("for ever", ("p", (None,)), for_ever(stuck, "p"))
        book = self.book(stay, world=stuck)
        self.assertEqual(stay, book.knows("for ever", ("p", (None,))))
        self.assertIsNone(book.knows("for ever", ("p", (2,))))

    def test_the_first_one(self):
        one = ("story", (INSIDE, (1, 0)), ("come a", "hand", "step 0", "hand"))
        two = lots_sheet(WORLD, INSIDE, (1, 0))
        self.assertEqual(one, self.book(one, two).knows("can", (INSIDE, (1, 1))))
        self.assertEqual(two, self.book(two, one).knows("can", (INSIDE, (1, 1))))

    def test_any_values(self):
        book = self.book(lots_sheet(WORLD, INSIDE, (1, 0)), never_sheet(WORLD, STALE, (None, None)), calm_sheet(WORLD, (0, 0)))
        question = (INSIDE, (1, 0))
        self.assertIsNotNone(book.knows("can", question))
        for value in VALUES:
            self.assertIsNone(book.knows(value, question), value)
            for claim in ("can", "never", "calm", "shut in", "comes out", "for ever", "passes", "story", "lots"):
                self.assertIsNone(book.knows(claim, value), value)
                self.assertIsNone(book.knows(claim, (value, (0, 0))), value)
                if claim != "calm":
                    self.assertIsNone(book.knows(claim, (STALE, value)), value)
        for wrong in ((INSIDE, 0, (1, 0)), ((1, 0),), [*question], (list(INSIDE), (1, 0)), (INSIDE, [1, 0]), (INSIDE, (True, False)), (INSIDE, (1,)), (INSIDE, (1, 0), 0),
                      (("inside", "q"), (1, 0)), (INSIDE, (1, -1))):
            self.assertIsNone(book.knows("can", wrong), wrong)
        self.assertIsNone(book.knows("calm", (STALE, (0, 0))))
        self.assertIsNone(book.knows("calm", ((False, False),)))
        self.assertIsNone(book.knows("calm", ([0, 0],)))


class First(unittest.TestCase):
    def test_stories_that_do_more_deeds(self):
        sheet = ("story", (INSIDE, (2, 0)), ("come a", "hand", "step 0", "hand"))
        book = Book(WORLD)
        for many in range(4):
            told = book.first_deeds(sheet, many)
            self.assertEqual(many > 1, told is not None)
            if told is not None:
                self.assertIsInstance(told, Book)
                self.assertEqual((WORLD.with_plan(WORLD.plan.deeds[:many]), (sheet,)), (told.world, told.sheets))
        lots = ("lots", (INSIDE, (None, None)), (("hand",), ("step", Y, False), ("hand",)))
        self.assertIsNone(book.first_deeds(lots, 1))
        self.assertEqual((lots,), book.first_deeds(sheet=lots, many=2).sheets)
        self.assertEqual((), book.sheets)

    def test_papers(self):
        book = Book(CALM)
        for sheet in (never_sheet(CALM, INSIDE, (None,)), calm_sheet(CALM, (None,)), calm_sheet(CALM, (2,))):
            for many in range(4):
                told = book.first_deeds(sheet, many)
                value = tuple(standing for standing in sheet[2] if standing[2] <= many)
                self.assertEqual(((sheet[0], sheet[1], value),), told.sheets)
                self.assertTrue(sheet_holds(told.world, *told.sheets[0]))

    def test_none(self):
        shut = World.read("part p\ndoor d out p open\nkind a\ngo d\nplan\nshut d")
        book = Book(shut)
        self.assertIsNone(book.first_deeds(("shut in", ("p", (None,)), shut_in(shut, "p")), 1))
        spoilt = ("never", (INSIDE, (None,)), Lots(shut, (None,)).standings[1:])
        for value in [*VALUES, spoilt, ("calm", ((None,),), ())]:
            self.assertIsNone(book.first_deeds(value, 1), value)
        for value in VALUES:
            if value not in (0, 1) or isinstance(value, bool):
                self.assertEqual(("Refused", 1), raised(book.first_deeds, None, value), value)
        self.assertEqual(("Refused", 1), raised(book.first_deeds, spoilt, 2))
        # What is wrong of the last deed alone is wrong of the first ones, too.
        late = Book(CALM)
        whole = closed_paper(CALM, (None,), INSIDE)
        less = ("never", (INSIDE, (None,)), tuple(one for one in whole if one[2] < 3))
        self.assertFalse(late.put(less))
        self.assertTrue(Book(CALM.with_plan(CALM.plan.deeds[:2])).put(less))
        self.assertIsNone(late.first_deeds(less, 2))

    def test_random_worlds(self):
        chance = random.Random(94)
        kept = 0
        for _ in range(30):
            world = random_world(chance, rows=3, deeds=4)
            book, caps = Book(world), none_of(world)
            lots = Lots(world, caps, 20000)
            for harm in all_harms(world):
                story = lots.story(harm)
                if story is None:
                    sheets = [never_sheet(world, harm, caps)]
                else:
                    text = numbered(world, story)
                    comes = tuple(text.count(f"come {kind.name}") for kind in world.kinds)
                    sheets = [("lots", (harm, caps), story), ("story", (harm, comes), text)]
                for sheet in sheets:
                    self.assertTrue(book.put(sheet))
                    claim = "never" if story is None else "can"
                    self.assertIsNotNone(book.knows(claim, (harm, caps)))
                    self.assertIsNone(book.knows("can" if story is None else "never", (harm, caps)))
                    for many in range(len(world.plan.deeds) + 1):
                        told = book.first_deeds(sheet, many)
                        done = sum(what in ("hand", ("hand",)) for what in sheet[2])
                        self.assertEqual(story is None or done <= many, told is not None)
                        kept += told is not None
        self.assertGreater(kept, 300)


if __name__ == "__main__":
    unittest.main()
