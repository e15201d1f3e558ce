"""[2], [9], [26] to [28]: plans, what each deed does, and worlds."""

import unittest

from helpers import HOUSE, KIND, VALUES, raised
from lightsout.guests import Kind, first_place, is_still, step
from lightsout.house import House, first_row
from lightsout.plans import Plan, World, asked_empty, deed

DEEDS = [("shut", "d"), ("open", "e"), ("drain", "p"), ("off", "p"), ("on", "q"), ("save", "c"), ("load", "k")]
TEXT = "shut d\nopen e\ndrain p\noff p\non q\nsave c\nload k"
# Part p has the cells c, not kept, and k, kept; part q has f, not kept.
CELLAR = House(["p", "q"], [("d", "out", "p", True)], [("c", "p", False), ("k", "p", True), ("f", "q", False)])


def row(doors=(True,), lights=(True, True), values=(0, 0, 0), saved=(0, 0, 0), told=(0, 0, 0)):
    return doors, lights, values, saved, told


def done(told, places=(), house_row=None):
    return deed(CELLAR, house_row or row(), places, told)


def place(where, pocket=None):
    return 0, 0, where, pocket


class Plans(unittest.TestCase):
    def test_made(self):
        lists = [list(told) for told in DEEDS]
        plan = Plan(lists)
        lists[0][0] = "on"
        lists.pop()
        self.assertEqual(tuple(DEEDS), plan.deeds)
        self.assertEqual(Plan(tuple(DEEDS)), Plan(deeds=DEEDS))
        self.assertEqual({tuple}, {type(told) for told in (plan.deeds, *plan.deeds)})
        self.assertEqual((), Plan([]).deeds)
        self.assertEqual(12, len(Plan([("off", "p")] * 12).deeds))

    def test_equal(self):
        self.assertEqual(Plan(DEEDS), Plan(DEEDS))
        self.assertNotEqual(Plan(DEEDS), Plan(DEEDS[::-1]))
        self.assertNotEqual(Plan(DEEDS), Plan(DEEDS[1:]))
        for value in [*VALUES, KIND, HOUSE, tuple(DEEDS)]:
            self.assertFalse(Plan(DEEDS) == value)
        with self.assertRaises(TypeError):
            iter(Plan(DEEDS))

    def test_wrong(self):
        for value in VALUES:
            if not isinstance(value, (list, tuple)):
                self.assertEqual(("InvalidPlan", -1), raised(Plan, value))
        wrong = [("off",), ("off", "p", "p"), ("off", "out"), ("off", "P"), ("off", 1), ("off", None), ("off", ["p"]),
                 ("Off", "p"), ("go", "d"), ("see", "c"), ("", "p"), ("off p",), "off p", "on", ("p", "off"),
                 (None, "p"), (["off"], "p"), ("kept", "c"), ("off", "abcdefghi")]
        for told in [*wrong, *VALUES]:
            self.assertEqual(("InvalidPlan", 0), raised(Plan, [told, None]), told)
            self.assertEqual(("InvalidPlan", 2), raised(Plan, (DEEDS[0], DEEDS[0], told)), told)

    def test_text_and_back(self):
        self.assertEqual(TEXT, Plan(DEEDS).text())
        self.assertEqual(Plan(DEEDS), Plan.read(TEXT))
        self.assertEqual("", Plan([]).text())
        self.assertEqual(Plan([]), Plan.read(text=""))

    def test_wrong_texts(self):
        for value in VALUES:
            if not isinstance(value, str):
                self.assertEqual(("InvalidText", 0), raised(Plan.read, value))
        for told in (" ", "off", "off p ", "off  p", " off p", "off out", "off 1", "Off p", "go d", "off p q", "plan"):
            self.assertEqual(("InvalidText", 0), raised(Plan.read, told), told)
            self.assertEqual(("InvalidText", 2), raised(Plan.read, "on p\non p\n" + told + "\nx"), told)
        self.assertEqual(("InvalidText", 1), raised(Plan.read, "on p\n"))
        self.assertEqual(("InvalidText", 0), raised(Plan.read, "\n"))
        self.assertEqual(("InvalidText", 0), raised(Plan.read, "\non p"))


class Deeds(unittest.TestCase):
    def test_asked_empty(self):
        self.assertEqual([None, None, "p", "p", None, None, None], [asked_empty(told) for told in DEEDS])
        self.assertEqual("hall", asked_empty(told=("drain", "hall")))

    def test_doors(self):
        for told, ahead, behind in (("shut", True, False), ("shut", False, False), ("open", False, True),
                                    ("open", True, True)):
            self.assertEqual((row((behind,)), (place(0),), None), done((told, "d"), [place(0)], row((ahead,))))

    def test_drain(self):
        self.assertEqual((row(), (), None), done(("drain", "p")))
        self.assertEqual((row(), (place(-1), place(1)), None), done(("drain", "p"), (place(-1), place(1))))
        self.assertIsNone(done(("drain", "p"), [place(1), place(0)]))
        self.assertIsNone(done(("drain", "q"), [place(1)]))
        dark = row(lights=(False, True), values=(1, 1, 1), told=(1, 1, 1))
        self.assertIsNone(done(("drain", "p"), [place(0)], dark))
        self.assertEqual((dark, (), None), done(("drain", "p"), (), dark))

    def test_off(self):
        ahead = row(values=(1, 2, 1), saved=(2, 1, 1), told=(1, 2, 1))
        behind = row(lights=(False, True), values=(0, 2, 1), saved=(2, 1, 1), told=(3, 2, 1))
        self.assertEqual((behind, (), None), done(("off", "p"), (), ahead))
        for told, after in enumerate((0, 3, 4, 3, 4)):
            ahead = row(values=(1, 1, 1), told=(told,) * 3)
            self.assertEqual(row(lights=(False, True), values=(0, 1, 1), told=(after, told, told)),
                             done(("off", "p"), (), ahead)[0])
            self.assertEqual(row(lights=(True, False), values=(1, 1, 0), told=(told, told, after)),
                             done(("off", "q"), (), ahead)[0])

    def test_off_makes_pockets_old(self):
        pockets = [None, (0, 1, False), (0, 2, True), (1, 1, False), (2, 1, False)]
        places = [(1, 2, where, pocket) for where in (-1, 1) for pocket in pockets]
        aged = [None, (0, 1, True), (0, 2, True), (1, 1, False), (2, 1, False)]
        self.assertEqual(tuple([(1, 2, where, pocket) for where in (-1, 1) for pocket in aged]),
                         done(("off", "p"), places)[1])

    def test_places_stay_in_their_order(self):
        places = [place(1, (0, 1, False)), place(-1), place(1), place(-1), place(1, (0, 0, False)), place(1)]
        self.assertEqual((place(1, (0, 1, True)), place(-1), place(1), place(-1), place(1, (0, 0, True)), place(1)),
                         done(("off", "p"), places)[1])
        for told in (("on", "p"), ("shut", "d"), ("save", "c"), ("load", "c"), ("drain", "p"), ("off", "p")):
            self.assertEqual((place(1), place(-1), place(1)), done(told, [place(1), place(-1), place(1)])[1])
        self.assertEqual(place(1, (0, 1, False)), places[0])

    def test_off_with_somebody_inside(self):
        ahead = row(values=(1, 1, 1), told=(1, 1, 1))
        places = (place(1, (0, 1, False)), place(0))
        self.assertEqual((ahead, places, ("inside", "p")), done(("off", "p"), list(places), ahead))
        self.assertIsNone(done(("off", "p"), [place(1), place(-1)])[2])

    def test_off_of_what_is_off(self):
        dark = row(lights=(False, True), values=(1, 1, 1), told=(1, 1, 1))
        for places in ((), (place(0),), (place(-1, (0, 1, False)),)):
            self.assertEqual((dark, places, None), done(("off", "p"), places, dark))

    def test_on(self):
        dark = row(lights=(False, False), values=(1, 1, 1), told=(3, 1, 1))
        lit = row(lights=(True, False), values=(1, 1, 1), told=(3, 1, 1))
        self.assertEqual((lit, (place(0),), None), done(("on", "p"), [place(0)], dark))
        self.assertEqual((lit, (place(0),), None), done(("on", "p"), [place(0)], lit))
        self.assertEqual(row(lights=(False, True)), done(("on", "q"), (), row(lights=(False, False)))[0])

    def test_save(self):
        ahead = row(values=(2, 1, 1), saved=(0, 2, 0), told=(2, 3, 1))
        self.assertEqual((row(values=(2, 1, 1), saved=(2, 2, 0), told=(2, 3, 1)), (), None), done(("save", "c"), (), ahead))
        self.assertEqual(row(values=(2, 1, 1), saved=(0, 1, 0), told=(2, 3, 1)), done(("save", "k"), (), ahead)[0])

    def test_load(self):
        behind = {(0, 0): 0, (0, 1): 0, (0, 2): 0, (0, 3): 3, (0, 4): 4, (1, 0): 0, (1, 1): 1, (1, 2): 0, (1, 3): 1,
                  (1, 4): 4, (2, 0): 0, (2, 1): 0, (2, 2): 2, (2, 3): 3, (2, 4): 2}
        for (saved, told), after in behind.items():
            ahead = row(values=(1, 2, 0), saved=(saved, 1, 1), told=(told, 1, 2))
            self.assertEqual((row(values=(saved, 2, 0), saved=(saved, 1, 1), told=(after, 1, 2)), (), None),
                             done(("load", "c"), (), ahead), (saved, told))

    def test_save_and_load_in_the_dark(self):
        dark = row(lights=(False, True), values=(1, 1, 1), saved=(2, 2, 2), told=(1, 3, 1))
        for told in (("save", "c"), ("load", "c"), ("save", "k"), ("load", "k")):
            self.assertEqual((dark, (place(1),), None), done(told, [place(1)], dark))
        self.assertEqual((1, 1, 2), done(("load", "f"), (), dark)[0][2])
        self.assertEqual((2, 2, 1), done(("save", "f"), (), dark)[0][3])

    def test_all_but_drains_can_always_be_done_and_twice(self):
        ahead = row(values=(1, 2, 0), saved=(2, 1, 1), told=(1, 4, 0))
        for told in (("shut", "d"), ("open", "d"), ("off", "p"), ("on", "p"), ("save", "c"), ("load", "c"), ("drain", "p")):
            once = done(told, [place(1, (0, 1, False))], ahead)
            self.assertEqual(once, deed(CELLAR, once[0], once[1], told), told)

    def test_no_name(self):
        for word in ("shut", "open"):
            self.assertEqual(("NoName", "p"), raised(done, (word, "p"), [place(0)]))
        for word in ("drain", "off", "on"):
            self.assertEqual(("NoName", "c"), raised(done, (word, "c"), [place(0)]))
        for word in ("save", "load"):
            self.assertEqual(("NoName", "d"), raised(done, (word, "d"), [place(0)]))

    def test_by_names(self):
        self.assertEqual(done(("off", "p"), [place(1)]),
                         deed(told=("off", "p"), places=(place(1),), row=row(), house=CELLAR))


class Worlds(unittest.TestCase):
    def setUp(self):
        self.kinds = [KIND, Kind("m", [("see", "c"), ("open", "e"), ("wait", "k", 2)])]
        self.world = World(HOUSE, self.kinds, Plan(DEEDS))
        self.text = "\n".join([HOUSE.text(), KIND.text(), self.kinds[1].text(), "plan", TEXT])

    def test_made(self):
        self.assertEqual((HOUSE, tuple(self.kinds), Plan(DEEDS)), (self.world.house, self.world.kinds, self.world.plan))
        self.kinds.pop()
        self.assertEqual(2, len(self.world.kinds))
        self.assertIs(tuple, type(self.world.kinds))
        self.assertEqual((), World(plan=Plan([]), kinds=[], house=HOUSE).kinds)
        with self.assertRaises(TypeError):
            iter(self.world)

    def test_equal(self):
        self.assertEqual(World(HOUSE, tuple(self.kinds), Plan(DEEDS)), self.world)
        self.assertNotEqual(World(HOUSE, self.kinds[::-1], Plan(DEEDS)), self.world)
        self.assertNotEqual(World(HOUSE, self.kinds, Plan(DEEDS[:3])), self.world)
        self.assertNotEqual(World(HOUSE.with_kept([]), self.kinds, Plan(DEEDS)), self.world)
        for value in [*VALUES, self.text]:
            self.assertFalse(self.world == value)

    def test_refused(self):
        for value in VALUES:
            if value is not HOUSE:
                self.assertEqual(("InvalidHouse", -1), raised(World, value, value, value))
            if not isinstance(value, (list, tuple)):
                self.assertEqual(("InvalidGuest", -1), raised(World, HOUSE, value, value))
            if value is not KIND:
                self.assertEqual(("InvalidGuest", 0), raised(World, HOUSE, [value], value))
                self.assertEqual(("InvalidGuest", 1), raised(World, HOUSE, (KIND, value), None))
            if not isinstance(value, Plan):
                self.assertEqual(("InvalidPlan", -1), raised(World, HOUSE, [Kind("k", [("go", "z")])], value))
        self.assertEqual(("InvalidGuest", 1), raised(World, HOUSE, [KIND, Kind("k", [("rest",)])], None))
        self.assertEqual(("InvalidGuest", 2), raised(World, HOUSE, [KIND, Kind("m", [("rest",)]), KIND, None], None))

    def test_names_of_kinds(self):
        for word in ("go", "shut", "open"):
            for name in ("z", "p", "c"):
                kinds = [KIND, Kind("m", [("rest",), (word, name), ("see", "x")])]
                self.assertEqual(("NoName", name), raised(World, HOUSE, kinds, Plan([("off", "y")])))
        for row in (("see",), ("set", 1), ("wait", 1), ("tell",), ("use",)):
            for name in ("z", "p", "d"):
                kinds = [Kind("m", [("go", "e"), (row[0], name, *row[1:])]), Kind("n", [("go", "x")])]
                self.assertEqual(("NoName", name), raised(World, HOUSE, kinds, Plan([("off", "y")])))

    def test_names_of_deeds(self):
        wrong = [("shut", "p"), ("open", "c"), ("drain", "d"), ("off", "c"), ("on", "z"), ("save", "p"), ("load", "d")]
        for told in wrong:
            self.assertEqual(("NoName", told[1]), raised(World, HOUSE, [KIND], Plan([*DEEDS, told, ("off", "y")])))

    def test_with_plan(self):
        other = self.world.with_plan([["off", "q"]])
        self.assertEqual((HOUSE, self.world.kinds, Plan([("off", "q")])), (other.house, other.kinds, other.plan))
        self.assertEqual(Plan(DEEDS), self.world.plan)
        self.assertEqual(other, self.world.with_plan(deeds=(("off", "q"),)))
        self.assertEqual(("InvalidPlan", 1), raised(self.world.with_plan, [("off", "q"), None]))
        self.assertEqual(("InvalidPlan", -1), raised(self.world.with_plan, None))
        self.assertEqual(("NoName", "z"), raised(self.world.with_plan, [("off", "z")]))

    def test_with_house(self):
        house = HOUSE.with_kept(["c"])
        other = self.world.with_house(house)
        self.assertEqual((house, self.world.kinds, Plan(DEEDS)), (other.house, other.kinds, other.plan))
        self.assertEqual(HOUSE, self.world.house)
        self.assertEqual(("NoName", "d"), raised(self.world.with_house, House(["p"], [], [])))
        self.assertEqual(("InvalidHouse", -1), raised(self.world.with_house, house=None))

    def test_text_and_back(self):
        self.assertEqual(self.text, self.world.text())
        self.assertEqual(self.world, World.read(self.text))
        self.assertEqual(self.text, World.read(text=self.text).text())
        bare = World(House(["p"], [], []), [], Plan([]))
        self.assertEqual("part p\nplan", bare.text())
        self.assertEqual(bare, World.read("part p\nplan"))
        read = World.read(self.text)
        self.assertEqual((HOUSE, tuple(self.kinds), Plan(DEEDS)), (read.house, read.kinds, read.plan))


class ReadWorlds(unittest.TestCase):
    def check(self, error, text):
        self.assertEqual(error, raised(World.read, text), text)

    def test_no_string_or_no_plan(self):
        for value in VALUES:
            if not isinstance(value, str):
                self.check(("InvalidText", 0), value)
        self.check(("InvalidText", 1), "")
        self.check(("InvalidText", 3), "part p\nx\noff p")
        self.check(("InvalidText", 2), "plan \n plan")
        self.check(("InvalidText", 4), "part P\nkind k\nx\n")

    def test_house_first(self):
        self.check(("InvalidText", 0), "plan")
        self.check(("InvalidText", 0), "kind k\nx\nplan\nx")
        self.check(("InvalidText", 1), "part p\nx\nkind K\nplan\nx")
        self.check(("InvalidText", 1), "part P\nkind\nkind K\nplan\nx")
        self.check(("InvalidHouse", 1), "part p\npart p\nkind K\nplan\nx")
        self.check(("InvalidText", 1), "part p\n\nplan")

    def test_kinds_next(self):
        self.check(("InvalidGuest", -1), "part p\nkind K\nrest\nplan\nx")
        self.check(("InvalidGuest", -1), "part p\nkind k\nplan\nx")
        self.check(("InvalidGuest", -1), "part p\nkind k\nrest\nkind m\nplan\nx")
        self.check(("InvalidGuest", 1), "part p\nkind k\nrest\npart q\nkind K\nplan\nx")
        self.check(("InvalidGuest", 1), "part p\nkind k\nrest\nkind\nplan\nx")
        self.check(("InvalidGuest", 0), "part p\nkind k\nrest\nkind m\nplan x\nplan\nx")
        self.check(("InvalidGuest", 1), "part p\nkind k\nrest\n\nplan\nx")

    def test_deeds_next(self):
        self.check(("InvalidText", 2), "part p\nplan\nx\nx")
        self.check(("InvalidText", 4), "part p\nkind k\ngo z\nplan\nplan")
        self.check(("InvalidText", 3), "part p\nplan\noff p\n")
        self.check(("InvalidText", 2), "part p\nplan\n")
        self.check(("InvalidText", 3), "part p\nplan\noff p\nkind k\nrest")
        self.check(("InvalidText", 5), "part p\nkind k\nrest\nplan\noff z\noff out")

    def test_world_last(self):
        self.check(("InvalidGuest", 1), "part p\nkind k\ngo z\nkind k\nrest\nplan\noff z")
        self.check(("NoName", "y"), "part p\nkind k\ngo y\nplan\noff z")
        self.check(("NoName", "z"), "part p\nkind k\nrest\nplan\noff p\non z")
        self.check(None, "part p\nkind k\nrest\nplan\noff p\non p")


class ByHand(unittest.TestCase):
    """The story of the chapter on the stage, its steps and deeds done one behind another."""

    def test_story(self):
        text = "part a\ndoor d out a open\ncell c a\nkind k\ngo d\nsee c\ngo d\ngo d\nuse c\nplan\ndrain a\noff a\non a"
        world = World.read(text)
        self.assertEqual(text, world.text())
        house_row, guest, harm = first_row(world.house), first_place(0), None
        for _ in range(2):
            house_row, guest, harm = step(world.house, world.kinds, house_row, guest)
        self.assertEqual((0, 2, 0, (0, 0, False)), guest)
        self.assertIsNone(deed(world.house, house_row, [guest], ("drain", "a")))
        house_row, guest, harm = step(world.house, world.kinds, house_row, guest)
        for told in world.plan.deeds:
            if told == ("on", "a"):
                self.assertEqual(("dark", "a"), step(world.house, world.kinds, house_row, guest)[2])
            house_row, (guest,), harm = deed(world.house, house_row, [guest], told)
            self.assertIsNone(harm)
        self.assertEqual((0, 3, -1, (0, 0, True)), guest)
        house_row, guest, harm = step(world.house, world.kinds, house_row, guest)
        self.assertIsNone(harm)
        self.assertEqual(("stale", "c"), step(world.house, world.kinds, house_row, guest)[2])

    def test_lost(self):
        text = "part hall\ndoor gate out hall open\ncell c hall\nkind k\ngo gate\nset c 1\ntell c\ngo gate\n"
        world = World.read(text + "kind r\ngo gate\nsee c\nplan\ndrain hall\noff hall\non hall")
        house_row, guest = first_row(world.house), first_place(0)
        for _ in range(4):
            house_row, guest, harm = step(world.house, world.kinds, house_row, guest)
        for told in world.plan.deeds:
            house_row, _, harm = deed(world.house, house_row, [guest], told)
        self.assertEqual(((0,), (3,)), (house_row[2], house_row[4]))
        house_row, guest, harm = step(world.house, world.kinds, house_row, first_place(1))
        self.assertEqual(("lost", "c"), step(world.house, world.kinds, house_row, guest)[2])

    def test_inside(self):
        world = World.read("part p\ndoor d out p open\ndoor e p out open\nkind a\ngo d\ngo e\nplan\noff p\non p")
        house_row, guest, _ = step(world.house, world.kinds, first_row(world.house), first_place(0))
        self.assertEqual((house_row, (guest,), ("inside", "p")), deed(world.house, house_row, [guest], world.plan.deeds[0]))
        shut = deed(world.house, house_row, [guest], ("shut", "d"))[0]
        self.assertIsNone(deed(world.house, shut, [guest], ("drain", "p")))
        self.assertIsNone(step(world.house, world.kinds, shut, first_place(0)))
        _, guest, harm = step(world.house, world.kinds, shut, guest)
        self.assertEqual(((0, 2, -1, None), None), (guest, harm))
        self.assertEqual((shut, (guest,), None), deed(world.house, shut, [guest], ("drain", "p")))

    def test_shut_in(self):
        rows = ["part hall", "door gate out hall open", "cell pad hall", "kind reader", "go gate", "see pad", "go gate"]
        world = World.read("\n".join([*rows, "plan", "shut gate"]))
        first, here, behind = (0, 0, -1, None), (0, 1, 0, None), (0, 2, 0, (0, 0, False))
        house_row, guest, _ = step(world.house, world.kinds, first_row(world.house), first)
        self.assertEqual(here, guest)
        shut, places, harm = deed(world.house, house_row, [first, here], world.plan.deeds[0])
        self.assertEqual((((False,), (True,), (0,), (0,), (0,)), (first, here), None), (shut, places, harm))
        self.assertEqual((shut, behind, None), step(world.house, world.kinds, shut, here))
        self.assertIsNone(step(world.house, world.kinds, shut, behind))
        self.assertFalse(is_still(world.house, world.kinds, behind))


if __name__ == "__main__":
    unittest.main()
