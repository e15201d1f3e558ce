"""[1] to [3], [84]: inner houses within worlds, and others in their place."""

import random
import unittest

from helpers import VALUES, raised
from lightsout.faces import Inner, face
from lightsout.facewords import same_face
from lightsout.guests import Kind
from lightsout.house import House
from lightsout.lots import Lots
from lightsout.plans import World
from lightsout.swaps import exchanged_in, inner_of

ROWS = ["part a", "part r", "part b", "door m out a open", "door g a out shut", "door i out r open", "door o r a open",
        "door n a b shut", "cell x a", "cell c r kept", "cell y b"]
KINDS = ["kind w", "go m", "set x 1", "kind k", "go i", "see c", "go o", "kind s", "shut o", "go n"]
WORLD = World.read("\n".join([*ROWS, *KINDS, "plan", "shut o", "drain r", "off r", "off a", "save c"]))
TWO = World.read("\n".join(["part p", "part q", "door o q out open", "door h p q open", "door i out p shut", "cell c q", "kind k",
                            "go i", "go h", "see c", "go o", "plan"]))


def parts_of(inner):
    return inner.house.text(), inner.kind.text(), inner.gate_in, inner.gate_out


def harms_of(world):
    return set(Lots(world, (None,) * len(world.kinds), 20000).harms)


class Inside(unittest.TestCase):
    def test_by_hand(self):
        inner = inner_of(WORLD, "k", "i", "o")
        self.assertIsInstance(inner, Inner)
        self.assertEqual(("part r\ndoor i out r open\ndoor o r out open\ncell c r kept", "kind k\ngo i\nsee c\ngo o", "i", "o"),
                         parts_of(inner))
        self.assertEqual(parts_of(inner), parts_of(inner_of(world=WORLD, name="k", gate_in="i", gate_out="o")))

    def test_two_parts_and_the_worlds_order(self):
        inner = inner_of(TWO, "k", "i", "o")
        self.assertEqual(TWO.house.text(), inner.house.text())
        mixed = World.read("part z\npart q\npart p\ndoor t out z open\ndoor o z q open\ndoor h p q open\ndoor f q p open\n"
                           "door i p out shut\ncell u z\ncell d p\ncell c q\nkind k\ngo i\ngo h\ngo o\nplan")
        inner = inner_of(mixed, "k", "i", "o")
        self.assertEqual("part q\npart p\ndoor o out q open\ndoor h p q open\ndoor f q p open\ndoor i p out shut\ncell d p\ncell c q",
                         inner.house.text())

    def test_the_way_out_may_lead_into_the_yard(self):
        world = World.read("part r\ndoor i out r open\ndoor o out r shut\nkind k\ngo i\ngo o\nkind m\nopen o\nplan")
        self.assertEqual("part r\ndoor i out r open\ndoor o out r shut", inner_of(world, "k", "i", "o").house.text())

    def test_errors(self):
        for value in VALUES:
            if not isinstance(value, World):
                self.assertEqual(("InvalidSize", "world"), raised(inner_of, value, None, None, None), value)
            self.assertEqual(("NoName", value), raised(inner_of, WORLD, value, value, None), value)
            self.assertEqual(("NoName", value), raised(inner_of, WORLD, "k", value, None), value)
            self.assertEqual(("NoName", value), raised(inner_of, WORLD, "k", "i", value), value)
        # Both gates are one, or gate_in does not touch the yard: its number among the doors.
        self.assertEqual(("InvalidHouse", 2), raised(inner_of, WORLD, "k", "i", "i"))
        self.assertEqual(("InvalidHouse", 3), raised(inner_of, WORLD, "k", "o", "i"))
        self.assertEqual(("InvalidHouse", 3), raised(inner_of, WORLD, "k", "o", "o"))
        # The first other door from there into the yard.
        self.assertEqual(("InvalidHouse", 1), raised(inner_of, WORLD, "k", "m", "n"))
        self.assertEqual(("InvalidHouse", 0), raised(inner_of, WORLD, "k", "g", "o"))
        # gate_out has no end there, or both.
        far = World.read("part r\npart a\npart b\ndoor i out r open\ndoor n a b open\nkind k\ngo i\nplan")
        self.assertEqual(("InvalidHouse", 1), raised(inner_of, far, "k", "i", "n"))
        within = World.read("part p\npart q\ndoor i out p open\ndoor h p q open\ndoor o q p open\nkind k\ngo i\nplan")
        self.assertEqual(("InvalidHouse", 2), raised(inner_of, within, "k", "i", "o"))
        # Both ends hang together otherwise: an end counts, not the way.
        self.assertEqual(("InvalidHouse", 1), raised(inner_of, within, "k", "i", "h"))

    def test_numbers_are_those_of_the_worlds_doors(self):
        world = World.read("part b\npart a\npart r\ndoor x out b open\ndoor y b a open\ndoor z out b shut\ndoor i out r open\n"
                           "door h r a open\ndoor t a out open\ndoor o r b open\nkind k\ngo i\ngo o\nplan")
        # By h to a, and by y to b: the first door from there into the yard stands first of all; o has both ends there.
        self.assertEqual(("InvalidHouse", 0), raised(inner_of, world, "k", "i", "o"))
        cut = World.read(world.text().replace("door y b a open\n", "door y b out open\n"))
        self.assertEqual(("InvalidHouse", 5), raised(inner_of, cut, "k", "i", "o"))
        lone = World.read(cut.text().replace("door t a out open", "door t a r open"))
        self.assertEqual("part a\npart r\ndoor i out r open\ndoor h r a open\ndoor t a r open\ndoor o r out open",
                         inner_of(lone, "k", "i", "o").house.text())

    def test_too_many_parts_and_the_errors_of_inner(self):
        rows = ["part p", "part q", "part r", "door i out p open", "door h p q open", "door f q r open", "door o r out open"]
        world = World.read("\n".join([*rows, "kind k", "go h", "plan"]))
        self.assertEqual(("InvalidSize", "parts"), raised(inner_of, world, "k", "i", "o"))
        house = "part r\npart a\ndoor i out r open\ndoor o r a open\ndoor m out a open\ncell x a\ncell c r\n"
        for program, error in [("go o", ("InvalidGuest", 0)), ("go i\ngo m", ("NoName", "m")), ("go i\nsee x", ("NoName", "x")),
                               ("go i\nagain 0", ("InvalidGuest", 1)), ("go i\ngo o\nsee c", ("InvalidGuest", 1)),
                               ("go i\ngo o\nrest\nwhen 1 0", ("InvalidGuest", 3))]:
            world = World.read(house + "kind z\nrest\nkind k\n" + program + "\nkind y\ngo i\nplan")
            self.assertEqual(error, raised(inner_of, world, "k", "i", "o"), program)

    def test_rows_of_other_kinds(self):
        house = "part r\npart a\ndoor i out r open\ndoor o r a open\ndoor m out a open\ncell x a\ncell c r\n"
        own = "kind k\ngo i\nsee c\ngo o\n"
        for row, is_wrong in [("go i", True), ("shut i", True), ("open i", True), ("go o", True), ("see c", True), ("set c 1", True),
                              ("wait c 0", True), ("tell c", True), ("use c", True), ("shut o", False), ("open o", False),
                              ("go m", False), ("see x", False), ("when 1 0", False), ("again 0", False), ("rest", False)]:
            ahead = World.read(house + "kind z\ngo m\n" + row + "\n" + own + "plan")
            self.assertEqual(("InvalidGuest", 1) if is_wrong else None, raised(inner_of, ahead, "k", "i", "o"), row)
            behind = World.read(house + own + "kind z\ngo m\n" + row + "\n" + row + "\nplan")
            self.assertEqual(("InvalidGuest", 4) if is_wrong else None, raised(inner_of, behind, "k", "i", "o"), row)


class Exchanges(unittest.TestCase):
    def other(self, text, rows, gates=("i", "o"), name="k"):
        return Inner(House.read(text), Kind(name, rows), *gates)

    def test_by_hand(self):
        new = self.other("part s\npart t\ndoor o s out shut\ndoor h s t open\ndoor i t out open\ncell v t\ncell u s",
                         [("go", "i"), ("go", "h"), ("go", "o")])
        world = WORLD.with_plan([("shut", "o")])
        changed = exchanged_in(world, new)
        self.assertEqual("part a\npart s\npart t\npart b\ndoor m out a open\ndoor g a out shut\ndoor o s a shut\ndoor h s t open\n"
                         "door i t out open\ndoor n a b shut\ncell x a\ncell v t\ncell u s\ncell y b", changed.house.text())
        self.assertEqual("kind k\ngo i\ngo h\ngo o", changed.kinds[1].text())
        self.assertEqual((world.kinds[0], world.kinds[2], world.plan), (changed.kinds[0], changed.kinds[2], changed.plan))
        self.assertEqual(parts_of(new), parts_of(inner_of(changed, "k", "i", "o")))
        self.assertEqual(changed, exchanged_in(world=world, inner=new))
        # And back again.
        self.assertEqual(world, exchanged_in(changed, inner_of(world, "k", "i", "o")))

    def test_cells_stand_behind_all_if_there_were_none(self):
        bare = World.read("part r\npart a\ndoor i out r open\ndoor o a r open\ncell x a\nkind k\ngo i\ngo o\nplan")
        new = self.other("part r\ndoor i out r open\ndoor o r out open\ncell v r\ncell u r kept", [("go", "i"), ("go", "o")])
        changed = exchanged_in(bare, new)
        self.assertEqual("part r\npart a\ndoor i out r open\ndoor o r a open\ncell x a\ncell v r\ncell u r kept",
                         changed.house.text())
        self.assertEqual("part r\npart a\ndoor i out r open\ndoor o a r open\ncell x a",
                         exchanged_in(changed, inner_of(bare, "k", "i", "o")).house.text())

    def test_house_and_world_may_refuse(self):
        rows = [("go", "i"), ("go", "o")]
        self.assertEqual(("InvalidHouse", 1), raised(exchanged_in, WORLD, self.other("part a\ndoor i out a open\ndoor o a out open", rows)))
        named = self.other("part r\ndoor i out r open\ndoor o r out open", rows)
        # The plan saves a cell that is there no more.
        self.assertEqual(("NoName", "c"), raised(exchanged_in, WORLD, named))
        moved = self.other("part s\ndoor i out s open\ndoor o s out open\ncell c s", rows)
        self.assertEqual(("NoName", "r"), raised(exchanged_in, WORLD, moved))

    def test_errors(self):
        for value in VALUES:
            self.assertEqual(("InvalidSize", "inner"), raised(exchanged_in, value, value), value)
        new = self.other("part r\ndoor i out r open\ndoor o r out open", [("go", "i"), ("go", "o")])
        for value in VALUES:
            if not isinstance(value, World):
                self.assertEqual(("InvalidSize", "world"), raised(exchanged_in, value, new), value)
        away = self.other("part r\ndoor i out r open\ndoor o r out open", [("go", "i"), ("go", "o")], name="q")
        self.assertEqual(("NoName", "q"), raised(exchanged_in, WORLD, away))
        gates = self.other("part r\ndoor j out r open\ndoor o r out open", [("go", "j"), ("go", "o")], ("j", "o"))
        self.assertEqual(("NoName", "j"), raised(exchanged_in, WORLD, gates))
        # In the world itself the way in leads into another part that has a door to the yard.
        gates = self.other("part r\ndoor m out r open\ndoor n r out open", [("go", "m"), ("go", "n")], ("m", "n"))
        self.assertEqual(("InvalidHouse", 1), raised(exchanged_in, WORLD, gates))


class AlikeFaces(unittest.TestCase):
    """[84]: with alike faces both worlds have the same harms, of what is outside or called alike within."""

    def test_same_harms(self):
        chance = random.Random(84)
        texts = ["part r\ndoor i out r open\ndoor o r out open\ncell c r", "part r\ndoor i r out open\ndoor o r out open",
                 "part r\npart t\ndoor i out t open\ndoor h t r open\ndoor o r out open"]
        programs = [[("go", "i"), ("go", "o")], [("go", "i"), ("see", "c"), ("go", "o")], [("go", "i"), ("go", "i")],
                    [("go", "i"), ("set", "c", 1), ("wait", "c", 1), ("go", "o")], [("go", "i"), ("go", "h"), ("go", "o")],
                    [("go", "i"), ("open", "o"), ("go", "o")], [("go", "i"), ("rest",)]]
        inners = []
        for text in texts:
            for rows in programs:
                house = House.read(text)
                names = [door[0] for door in house.doors] + [cell[0] for cell in house.cells]
                if all(len(row) < 2 or row[1] in names for row in rows):
                    inners.append(Inner(house, Kind("k", rows), "i", "o"))
        alike = apart = 0
        for _ in range(40):
            one, other = chance.sample(inners, 2)
            deeds = [chance.choice([("drain", "r"), ("off", "r"), ("shut", "o"), ("open", "o"), ("off", "a"), ("drain", "a")])
                     for _ in range(chance.randrange(1, 5))]
            rest = ["part a\npart r\ndoor m a out open\ndoor i out r open\ndoor o r a open\nkind k\ngo i\ngo o"]
            if chance.random() < 0.5:
                rest.append("kind z\nshut o\ngo m\nopen o")
            world = World.read("\n".join([*rest, "plan", *[" ".join(told) for told in deeds]]))
            worlds = [exchanged_in(world, inner) for inner in (one, other)]
            within = [told for told in deeds if told[1] != "a"]
            is_same, _ = same_face(face(one, within, True), face(other, within, True))
            alike += is_same
            apart += not is_same
            if is_same:
                told = [{harm for harm in harms_of(made) if harm[1] in ("a", "r")} for made in worlds]
                self.assertEqual(told[0], told[1], (one.house.text(), one.kind.text(), other.kind.text(), deeds))
        self.assertGreater(min(alike, apart), 5)


if __name__ == "__main__":
    unittest.main()
