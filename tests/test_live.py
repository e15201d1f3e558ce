"""[1] to [3], [95]: live worlds, their deeds, and what errors leave as it was."""

import random
import unittest

from helpers import VALUES, raised, random_world
from lightsout.errors import LightError
from lightsout.house import House
from lightsout.live import Live
from lightsout.lots import Lots
from lightsout.plans import World

TEXT = "part hall\ndoor gate out hall open\nkind reader\ngo gate\nplan\noff hall"
BOTH = (("dark", "hall"), ("inside", "hall"))
RICH = ("part p\npart q\ndoor d out p open\ndoor e p q shut\ncell c p\ncell m q kept\nkind a\ngo d\nsee c\ngo d\ngo d\nuse c\n"
        "kind b\nrest\nrest\nplan\ndrain p\noff p\non p")


def harms_of(world):
    return tuple(sorted(Lots(world, (None,) * len(world.kinds)).harms))


def state(live):
    return str(live), live.harms, len(live), live.world.text()


class Deeds(unittest.TestCase):
    def test_begins(self):
        live = Live.read(TEXT)
        self.assertEqual((TEXT, BOTH, 0), (str(live), live.harms, len(live)))
        self.assertEqual(World.read(TEXT), live.world)
        world = World.read(RICH)
        self.assertEqual((RICH, harms_of(world)), (str(Live(world=world)), Live(world).harms))
        self.assertEqual((), Live.read("part p\nplan").harms)
        with self.assertRaises(TypeError):
            iter(live)

    def test_by_hand(self):
        live = Live.read(text=TEXT)
        self.assertEqual(((), ()), live.put_in(0, ("drain", "hall")))
        self.assertEqual(((), BOTH), live.put_in(at=0, deed=["shut", "gate"]))
        self.assertEqual((), live.harms)
        self.assertEqual(2, len(live))
        self.assertEqual("plan\nshut gate\ndrain hall\noff hall", str(live)[-36:][str(live)[-36:].index("plan"):])
        self.assertEqual((BOTH, ()), live.take_out(0))
        self.assertIs(True, live.undo())
        self.assertEqual(((), 2), (live.harms, len(live)))
        # At first shut, and nobody opens it.
        self.assertEqual(((), ()), live.turn("gate"))
        self.assertIn("door gate out hall shut", str(live))
        self.assertEqual(((), ()), live.take_out(at=2))
        late = Live.read(TEXT)
        self.assertEqual(((), ()), late.put_in(1, ("on", "hall")))
        self.assertEqual(((), BOTH), late.take_out(0))
        self.assertEqual((BOTH, ()), late.put_in(0, ("off", "hall")))
        self.assertEqual(((), BOTH), late.write("reader", 0, ("rest",)))
        self.assertEqual((BOTH, ()), late.write(kind="reader", at=0, row=["go", "gate"]))
        self.assertEqual(5, len(late))

    def test_take_out_and_put_in_one_alone(self):
        rows = ["on hall", "off hall", "on hall", "drain hall"]
        head = TEXT[:-len("off hall")]
        for at in range(4):
            live = Live.read(head + "\n".join(rows))
            live.take_out(at)
            self.assertEqual(head + "\n".join(rows[:at] + rows[at + 1:]), str(live))
            live.put_in(at, ("shut", "gate"))
            self.assertEqual(head + "\n".join(rows[:at] + ["shut gate"] + rows[at + 1:]), str(live))

    def test_each_deed(self):
        live = Live.read(RICH)
        self.assertEqual((("dark", "p"), ("inside", "p"), ("stale", "c")), live.harms)
        self.assertEqual(((), (("stale", "c"),)), live.keep("c"))
        self.assertIn("cell c p kept\ncell m q kept", str(live))
        self.assertEqual(((("stale", "c"),), ()), live.keep(cell="c"))
        self.assertEqual(RICH, str(live))
        self.assertEqual(((), ()), live.keep("m"))
        self.assertIn("cell m q\n", str(live))
        self.assertEqual(((), (("dark", "p"), ("inside", "p"), ("stale", "c"))), live.turn(door="d"))
        self.assertIn("door d out p shut\ndoor e p q shut", str(live))
        self.assertEqual(((("dark", "p"), ("inside", "p"), ("stale", "c")), ()), live.turn("d"))
        self.assertEqual(((), ()), live.turn("e"))
        self.assertIn("door e p q open", str(live))
        self.assertEqual(((), (("stale", "c"),)), live.write("a", 4, ("rest",)))
        self.assertIn("kind a\ngo d\nsee c\ngo d\ngo d\nrest\nkind b", str(live))
        self.assertEqual(((), ()), live.write("b", 1, ["when", 2, 2]))
        self.assertIn("kind b\nrest\nwhen 2 2\nplan", str(live))
        self.assertEqual(8, len(live))

    def test_new_and_gone_harms(self):
        chance = random.Random(81)
        seen = [0, 0]
        for _ in range(40):
            live = Live(random_world(chance, rows=3, deeds=3))
            for _ in range(6):
                ahead = live.harms
                told = self.some_deed(chance, live)
                if told is None:
                    continue
                self.assertEqual(harms_of(live.world), live.harms)
                new = tuple(harm for harm in live.harms if harm not in ahead)
                gone = tuple(harm for harm in ahead if harm not in live.harms)
                self.assertEqual((new, gone), told)
                seen[0] += len(new)
                seen[1] += len(gone)
        self.assertGreater(min(seen), 10)

    def some_deed(self, chance, live):
        house = live.world.house
        number = chance.randrange(5)
        try:
            if number == 0:
                return live.put_in(chance.randrange(len(live.world.plan.deeds) + 1), chance.choice(
                    [(word, chance.choice(house.parts)) for word in ("off", "on", "drain")]))
            if number == 1 and live.world.plan.deeds:
                return live.take_out(chance.randrange(len(live.world.plan.deeds)))
            if number == 2:
                return live.turn(chance.choice(house.doors)[0])
            if number == 3:
                return live.keep(chance.choice(house.cells)[0])
            kind = chance.choice(live.world.kinds)
            return live.write(kind.name, chance.randrange(len(kind.rows)), chance.choice(
                [("go", "d"), ("rest",), ("see", house.cells[0][0]), ("use", house.cells[0][0]), ("tell", house.cells[0][0])]))
        except LightError:
            return None

    def test_undo_of_each(self):
        live = Live.read(RICH)
        first = state(live)
        deeds = [lambda: live.put_in(3, ("off", "q")), lambda: live.take_out(1), lambda: live.turn("e"), lambda: live.keep("c"),
                 lambda: live.write("b", 0, ("tell", "m"))]
        for work in deeds:
            work()
            self.assertEqual(1, len(live))
            self.assertNotEqual(RICH, str(live))
            self.assertIs(True, live.undo())
            self.assertEqual(first, state(live))
        self.assertIs(False, live.undo())
        self.assertEqual(first, state(live))
        met = [state(live)]
        for work in deeds:
            work()
            met.append(state(live))
        for told in met[-2::-1]:
            self.assertIs(True, live.undo())
            self.assertEqual(told, state(live))
        self.assertIs(False, live.undo())


class Trying(unittest.TestCase):
    def test_returns(self):
        live = Live.read(TEXT)
        live.put_in(0, ("drain", "hall"))
        ahead = state(live)

        def work(other):
            self.assertIs(live, other)
            other.put_in(0, ("shut", "gate"))
            other.undo()
            other.undo()
            self.assertIs(False, other.undo())
            other.take_out(0)
            return [len(other), other.harms]

        self.assertEqual([1, ()], live.trying(work))
        self.assertEqual(ahead, state(live))
        self.assertIsNone(live.trying(work=lambda other: None))
        self.assertIs(True, live.undo())
        self.assertEqual(TEXT, str(live))

    def test_raises(self):
        live = Live.read(TEXT)
        live.turn("gate")
        ahead = state(live)

        def work(other):
            other.turn("gate")
            other.put_in(1, ("on", "hall"))
            other.take_out(7)

        self.assertEqual(("Refused", 1), raised(live.trying, work))
        self.assertEqual(ahead, state(live))

        def fails(other):
            other.turn("gate")
            raise ZeroDivisionError

        with self.assertRaises(ZeroDivisionError):
            live.trying(fails)
        self.assertEqual(ahead, state(live))

    def test_within_another(self):
        live = Live.read(TEXT)

        def outer(other):
            other.turn("gate")
            inner = other.trying(lambda third: (third.take_out(0), len(third))[1])
            return inner, len(other), other.harms

        self.assertEqual((2, 1, ()), live.trying(outer))
        self.assertEqual((TEXT, 0, BOTH), (str(live), len(live), live.harms))


class Errors(unittest.TestCase):
    def setUp(self):
        self.live = Live.read(RICH)
        self.live.keep("c")
        self.ahead = state(self.live)

    def tearDown(self):
        self.assertEqual(self.ahead, state(self.live))

    def refuses(self, error, call, *told):
        self.assertEqual(error, raised(call, *told), told)
        self.assertEqual(self.ahead, state(self.live), told)

    def test_names(self):
        for name in [*VALUES, "c", "p", "D", "out", "a"]:
            self.refuses(("NoName", name), self.live.turn, name)
        for name in [*VALUES, "d", "out", "b"]:
            self.refuses(("NoName", name), self.live.keep, name)
        for name in [*VALUES, "d", "c", "out", "p"]:
            if name != "a":
                self.refuses(("NoName", name), self.live.write, name, None, None)

    def test_numbers(self):
        for at in [*VALUES, 3, 4, 5, 6]:
            is_number = isinstance(at, int) and not isinstance(at, bool)
            if not is_number or not 0 <= at <= 3:
                self.refuses(("Refused", 3), self.live.put_in, at, None)
            if not is_number or not 0 <= at < 3:
                self.refuses(("Refused", 2), self.live.take_out, at)
            if not is_number or not 0 <= at < 5:
                self.refuses(("Refused", 4), self.live.write, "a", at, None)
            if not is_number or not 0 <= at < 2:
                self.refuses(("Refused", 1), self.live.write, "b", at, None)
        empty = Live.read("part p\nplan")
        self.assertEqual(("Refused", -1), raised(empty.take_out, 0))
        self.assertEqual(("Refused", 0), raised(empty.put_in, 1, ("on", "p")))
        self.assertEqual(((), ()), empty.put_in(0, ("on", "p")))

    def test_plans_guests_and_worlds(self):
        for deed in [*VALUES, ("of", "p"), ("off",), ("off", "p", 1), ("off", "out"), ("off", None)]:
            self.refuses(("InvalidPlan", 1), self.live.put_in, 1, deed)
            self.refuses(("InvalidPlan", 3), self.live.put_in, 3, deed)
        for deed, name in ((("off", "x"), "x"), (("off", "d"), "d"), (("shut", "p"), "p"), (("save", "q"), "q")):
            self.refuses(("NoName", name), self.live.put_in, 0, deed)
        for row in [*VALUES, ("go",), ("go", "d", 1), ("set", "c", 3), ("when", 0, 6), ("again", 6), ("drain", "p"), "rest"]:
            self.refuses(("InvalidGuest", 2), self.live.write, "a", 2, row)
        for row, name in ((("go", "c"), "c"), (("see", "d"), "d"), (("see", "x"), "x"), (("open", "p"), "p")):
            self.refuses(("NoName", name), self.live.write, "a", 0, row)

    def test_too_many(self):
        kinds = "".join(f"kind {name}\ngo d\nsee c\nset c 1\nset e 2\ngo d\n" for name in "ab")
        text = f"part p\ndoor d out p open\ncell c p\ncell e p\n{kinds}plan"
        self.assertEqual(("InvalidSize", "standings"), raised(Live.read, text))
        self.assertEqual(("InvalidSize", "standings"), raised(Live, World.read(text)))
        live = Live.read(text.replace("door d out p open", "door d out p shut"))
        ahead = state(live)
        self.assertEqual(("InvalidSize", "standings"), raised(live.turn, "d"))
        self.assertEqual(("InvalidSize", "standings"), raised(live.put_in, 0, ("open", "d")))
        self.assertEqual(("InvalidPlan", 0), raised(live.put_in, 0, ("open", 1)))
        self.assertEqual(("InvalidSize", "standings"), raised(live.trying, lambda other: other.turn("d")))
        self.assertEqual(ahead, state(live))

    def test_texts(self):
        for value in VALUES:
            if not isinstance(value, str):
                self.assertEqual(("InvalidText", 0), raised(Live.read, value), value)
        self.assertEqual(raised(World.read, "part p\npaln"), raised(Live.read, "part p\npaln"))
        self.assertEqual(("NoName", "x"), raised(Live.read, "part p\nplan\noff x"))

    def test_houses_are_new(self):
        house = self.live.world.house
        kept = House(house.parts, house.doors, house.cells)
        self.live.turn("e")
        self.assertEqual(kept, house)
        self.live.undo()


if __name__ == "__main__":
    unittest.main()
