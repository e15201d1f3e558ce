"""[1] to [3], [65] to [71]: spots tick by tick, tales, longest stays, waits that are enough, ages, and loops."""

import itertools
import random
import unittest

from helpers import VALUES, bent, raised, random_world
from lightsout.grace import Grace
from lightsout.guests import is_still
from lightsout.plans import World
from lightsout.waits import ENDLESS, least_enough

HOUSE = "part p\ndoor d out p open\ndoor e p out open\n"
THROUGH = World.read(HOUSE + "kind a\ngo d\ngo e\nplan\nshut d\ndrain p\noff p")
HELD = World.read(HOUSE + "kind a\ngo d\ngo d\nplan\nshut d\ndrain p\noff p")
GRACE = Grace(THROUGH, ((1, 3),))
STUCK = Grace(HELD, ((1, 3),))
Y, OUT = (0, 0, -1, 1, -1), (0, 2, -1, 0, -1)
IN = [(0, 1, 0, left, -1) for left in (1, 2, 3)]
TALE = (("come", 0), ("tick", IN[2]), ("hand",), ("tick", IN[1]), ("tick", IN[0]), ("hand",), ("hand",))
INSIDE = ("inside", "p")


class ByHand:
    """[65] to [67], as the document tells them."""

    def __init__(self, world, times):
        self.world, self.times = world, times
        self.deeds = world.plan.deeds
        self.drains = [at for at, told in enumerate(self.deeds) if told[0] == "drain"]
        self.rows = {word: {row[1] for kind in world.kinds for row in kind.rows if row[0] == word}
                     for word in ("open", "shut")}

    def state(self, done):
        doors = {door[0]: door[3] for door in self.world.house.doors}
        lights = {part: True for part in self.world.house.parts}
        for word, name in self.deeds[:done]:
            if word in ("open", "shut"):
                doors[name] = word == "open"
            if word in ("on", "off"):
                lights[name] = word == "on"
        return doors, lights

    def begin(self, kind, row, where, own=None):
        rows = self.world.kinds[kind].rows
        still = is_still(self.world.house, self.world.kinds, (kind, row, where, None))
        is_own = own is not None and row < len(rows) and rows[row] == ("go", own)
        door = self.world.house.number_of_door(own) if is_own else -1
        return kind, row, where, 0 if still else self.times[kind][row], door

    def firsts(self):
        return [self.begin(kind, 0, -1) for kind in range(len(self.world.kinds))]

    def tick(self, spot, done):
        """The spots without harm, and the pairs of spots in the dark and their harm."""
        kind, at, where, left, own = spot
        doors, lights = self.state(done)
        found, dark = set(), []
        if left == 0 or where == -1:
            found.add(spot)
        if left > 1:
            found.add((kind, at, where, left - 1, own))
        if left == 1:
            row = self.world.kinds[kind].rows[at]
            if row[0] == "go":
                number = self.world.house.number_of_door(row[1])
                is_own = own == number
                if doors[row[1]] or is_own or row[1] in self.rows["open"]:
                    to = self.world.house.far_end(number, where)
                    part = None if to == -1 else self.world.house.parts[to]
                    behind = self.begin(kind, at + 1, to)
                    if part is not None and not lights[part]:
                        dark.append((behind, ("dark", part)))
                    else:
                        found.add(behind)
                if row[1] in self.rows["shut"] or (not doors[row[1]] and not is_own):
                    found.add(spot)
            elif row[0] == "again":
                found.add(self.begin(kind, row[1], where))
            elif row[0] == "when":
                found |= {self.begin(kind, row[2], where), self.begin(kind, at + 1, where)}
            else:
                found.add(self.begin(kind, at + 1, where, row[1] if row[0] == "open" else None))
                if row[0] == "wait":
                    found.add(spot)
        return found, dark

    def deed(self, spot, done):
        """The spot behind a deed, and the harm."""
        word, name = self.deeds[done]
        kind, at, where, left, own = spot
        if word == "shut" and own == self.world.house.number_of_door(name):
            return (kind, at, where, left, -1), None
        if word == "off" and self.state(done)[1][name] and where != -1 and self.world.house.parts[where] == name:
            return spot, ("inside", name)
        return spot, None

    def wait(self, waits, done):
        return waits[self.drains.index(done)] if done in self.drains else 0

    def enough(self, waits):
        """Whether no harm comes; and how many entries the shortest tale has."""
        level = [(spot, 0, 0) for spot in self.firsts()]
        seen = set(level)
        entries = 1
        while level:
            behind = []
            for spot, done, age in level:
                found, dark = self.tick(spot, done)
                if dark:
                    return False, entries + 1
                behind += [(other, done, min(age + 1, self.wait(waits, done))) for other in found]
                if done < len(self.deeds) and age >= self.wait(waits, done):
                    other, harm = self.deed(spot, done)
                    if harm:
                        return False, entries + 1
                    behind.append((other, done + 1, 0))
            entries += 1
            level = [state for state in dict.fromkeys(behind) if state not in seen]
            seen |= set(level)
        return True, None


def some(chance, rows=3, drains=2):
    while True:
        world = random_world(chance, rows=rows, deeds=5)
        if len([word for word, _ in world.plan.deeds if word == "drain"]) <= drains:
            return world, [[chance.choice([1, 1, 2, 3]) for _ in kind.rows] for kind in world.kinds]


def passing(chance, drains):
    """A world in which guests go through p, or wait there for a door, and the hand shuts it, waits, and puts it off."""
    parts = "part p\npart q\n" if chance.random() < 0.4 else "part p\n"
    doors = "door d out p open\ndoor e p out open\n" + ("door f p q open\n" if "q" in parts[6:] else "")
    inner = ["see c", "set c 1", "use c", "wait c 1"] + (["go f"] if "q" in parts[6:] else [])
    kinds, times = "", []
    for name in "ab"[:chance.randrange(1, 3)]:
        rows = ["go d", *[chance.choice(inner) for _ in range(chance.randrange(3))], chance.choice(["go e", "go e", "go d"])]
        kinds += f"kind {name}\n" + "".join(row + "\n" for row in rows)
        times.append([chance.choice([1, 1, 2, 3, 4]) for _ in rows])
    deeds = ["shut d", "off p", *["drain p"] * chance.randrange(1, drains + 1)]
    more = chance.sample(["on p", "shut e", "open d", "shut f" if "q" in parts[6:] else "off p"], chance.randrange(2))
    deeds = [*deeds[:1], *chance.sample([*deeds[2:], *more], len(deeds) - 2 + len(more)), "off p"]
    return World.read(parts + doors + "cell c p\n" + kinds + "plan\n" + "\n".join(deeds)), times


def all_spots(hand):
    """All that the form of a spot lets, but that its door of one's own is where it is."""
    house, kinds = hand.world.house, hand.world.kinds
    for kind, made in enumerate(kinds):
        for row in range(len(made.rows) + 1):
            for where in range(-1, len(house.parts)):
                most = hand.begin(kind, row, where)[3]
                owns = [-1]
                if row < len(made.rows) and made.rows[row][0] == "go":
                    owns.append(house.number_of_door(made.rows[row][1]))
                for left in range(1, most + 1) if most else [0]:
                    for own in owns:
                        yield kind, row, where, left, own


class Spots(unittest.TestCase):
    def test_each_row(self):
        world = World.read("part p\npart q\ndoor d out p open\ndoor e p q shut\ncell c p\nkind a\ngo d\nopen e\ngo e\n"
                           "kind b\ngo d\nsee c\nset c 1\nwait c 1\ntell c\nuse c\nkind m\nwhen 0 2\nagain 1\nrest\n"
                           "kind n\ngo d\nsee c\ngo e\nplan\nshut e\noff q\nopen e")
        grace = Grace(world, [(1, 2, 3), (2,) * 6, (3, 1, 1), (1, 1, 1)])
        self.assertEqual(((0, 0, -1, 1, -1), (0, 1, 0, 2, -1)), grace.spots_after((0, 0, -1, 1, -1), 0))
        self.assertEqual(((0, 1, 0, 1, -1),), grace.spots_after((0, 1, 0, 2, -1), 0))
        # He has opened e himself, and his row is to go through it.
        self.assertEqual(((0, 2, 0, 3, 1),), grace.spots_after((0, 1, 0, 1, -1), 0))
        self.assertEqual(((0, 2, 0, 2, 1),), grace.spots_after((0, 2, 0, 3, 1), 0))
        self.assertEqual(((0, 3, 1, 0, -1),), grace.spots_after((0, 2, 0, 1, 1), 0))
        self.assertEqual(((0, 3, 1, 0, -1),), grace.spots_after((0, 3, 1, 0, -1), 0))
        # Some kind opens e: perhaps it stands open, perhaps not.
        self.assertEqual(((0, 2, 0, 1, -1), (0, 3, 1, 0, -1)), grace.spots_after((0, 2, 0, 1, -1), 0))
        self.assertEqual(((3, 2, 0, 1, -1), (3, 3, 1, 0, -1)), grace.spots_after((3, 2, 0, 1, -1), 1))
        # Into the dark no spot leads; where the hand has e open nobody shuts it.
        self.assertEqual(((3, 2, 0, 1, -1),), grace.spots_after((3, 2, 0, 1, -1), 2))
        self.assertEqual((), grace.spots_after((0, 2, 0, 1, 1), 2))
        self.assertEqual((), grace.spots_after((3, 2, 0, 1, -1), 3))
        for row in (1, 2, 4, 5):
            behind = (1, row + 1, 0, 2 if row < 5 else 0, -1)
            self.assertEqual((behind,), grace.spots_after((1, row, 0, 1, -1), 0))
        self.assertEqual(((1, 3, 0, 1, -1), (1, 4, 0, 2, -1)), grace.spots_after((1, 3, 0, 1, -1), 0))
        self.assertEqual(((1, 3, 0, 1, -1),), grace.spots_after((1, 3, 0, 2, -1), 0))
        self.assertEqual(((1, 1, -1, 0, -1),), grace.spots_after((1, 1, -1, 0, -1), 0))
        self.assertEqual(((2, 0, -1, 1, -1), (2, 1, -1, 1, -1), (2, 2, -1, 0, -1)),
                         grace.spots_after((2, 0, -1, 1, -1), 0))
        self.assertEqual(((2, 0, -1, 1, -1), (2, 0, -1, 2, -1)), grace.spots_after(spot=(2, 0, -1, 2, -1), done=3))
        self.assertEqual(((2, 1, 0, 1, -1),), grace.spots_after((2, 1, 0, 1, -1), 0))

    def test_a_shut_door(self):
        world = World.read("part p\ndoor d out p open\ndoor e p out open\nkind a\ngo d\ngo e\nkind b\nshut d\nplan\nshut e")
        grace = Grace(world, [[1, 1], [1]])
        self.assertEqual(((0, 0, -1, 1, -1), (0, 1, 0, 1, -1)), grace.spots_after((0, 0, -1, 1, -1), 0))
        self.assertEqual(((0, 2, -1, 0, -1),), grace.spots_after((0, 1, 0, 1, -1), 0))
        self.assertEqual(((0, 1, 0, 1, -1),), grace.spots_after((0, 1, 0, 1, -1), 1))
        # By its form a spot may have the door that its row goes through, whatever stands ahead.
        self.assertEqual(((0, 2, -1, 0, -1),), grace.spots_after((0, 1, 0, 1, 1), 1))

    def test_as_by_hand(self):
        chance = random.Random(11)
        for _ in range(150):
            world, times = some(chance, 5, 5)
            grace, hand = Grace(world, times), ByHand(world, times)
            for spot in all_spots(hand):
                for done in range(len(world.plan.deeds) + 1):
                    self.assertEqual(tuple(sorted(hand.tick(spot, done)[0])), grace.spots_after(spot, done))

    def test_errors(self):
        for value in [*VALUES, ((1,),), ((1, 3, 1),), ((0, 1),), ((10, 1),), ((1, 3), (1,)), ((True, 3),), (1, 3), ("13",),
                      ((1, "3"),), ((1, None),)]:
            self.assertEqual(("InvalidSize", "times"), raised(Grace, THROUGH, value), value)
        self.assertIsNone(raised(Grace, world=THROUGH, times=[[9, 1]]))
        self.assertEqual(("InvalidSize", "times"), raised(Grace, World.read("part p\nplan"), [[1]]))
        wrong = [*VALUES, *[value for value in bent(IN[2]) if value not in [(0, 1, 0, 2, -1), (0, 1, 0, 1, -1)]],
                 (0, 1, 0, 0, -1), (0, 1, 0, 4, -1), (0, 2, -1, 1, -1), (0, 3, -1, 0, -1), (1, 0, -1, 1, -1),
                 (-1, 0, -1, 1, -1), (0, -1, -1, 1, -1), (0, 1, 1, 3, -1), (0, 1, 1, 0, -1), (0, 1, -2, 0, -1), (0, 1, -2, 3, -1), (0, 1, 0, 3, 0),
                 (0, 1, 0, 3, 2), (0, 1, 0, 3, -2), (0, 2, -1, 0, -2), (0, 2, -1, 0, 0), [*IN[2]], IN[2][:4], (False, 1, 0, 3, -1)]
        for value in wrong:
            self.assertEqual(("InvalidLot", 0), raised(GRACE.spots_after, value, None), value)
        self.assertIsNone(raised(GRACE.spots_after, (0, 1, 0, 3, 1), 0))
        for value in [*VALUES, 4, 5]:
            if value not in (0, 1, 2, 3) or isinstance(value, bool):
                self.assertEqual(("InvalidSize", "done"), raised(GRACE.spots_after, Y, value), value)
        with self.assertRaises(TypeError):
            iter(GRACE)


class Tales(unittest.TestCase):
    def test_by_hand(self):
        self.assertEqual(INSIDE, GRACE.play_tale(TALE, (2,)))
        self.assertIsNone(GRACE.play_tale(list(TALE[:6]), [2]))
        self.assertIsNone(GRACE.play_tale((), (0,)))
        self.assertEqual(("Refused", 5), raised(GRACE.play_tale, TALE, (3,)))
        self.assertEqual(("Refused", 7), raised(GRACE.play_tale, (*TALE, ("hand",)), (2,)))
        self.assertEqual(INSIDE, GRACE.play_tale(entries=(*TALE[:3], ("hand",), ("hand",)), waits=(0,)))
        # The wait counts from the deed ahead, or from the beginning.
        early = World.read(HOUSE + "kind a\ngo d\ngo e\nplan\ndrain p\noff p")
        stay = (("come", 0), ("tick", Y), ("tick", IN[2]))
        self.assertIsNone(Grace(early, [[1, 3]]).play_tale((*stay, ("hand",)), (2,)))
        self.assertEqual(("Refused", 3), raised(Grace(early, [[1, 3]]).play_tale, (*stay, ("hand",)), (3,)))
        twice = World.read(HOUSE + "kind a\nrest\nplan\ndrain p\ndrain p")
        rest = ("tick", (0, 0, -1, 0, -1))
        self.assertIsNone(Grace(twice, [[1]]).play_tale((("come", 0), rest, ("hand",), rest, rest, ("hand",)), (1, 2)))
        self.assertEqual(("Refused", 5), raised(Grace(twice, [[1]]).play_tale,
                                                (("come", 0), rest, rest, ("hand",), rest, ("hand",)), (1, 2)))

    def test_into_the_dark(self):
        world = World.read(HOUSE + "kind a\ngo d\ngo e\nplan\noff p\non p")
        grace = Grace(world, [[1, 3]])
        tale = (("come", 0), ("hand",), ("tick", IN[2]))
        self.assertEqual(("dark", "p"), grace.play_tale(tale, ()))
        self.assertEqual(("Refused", 3), raised(grace.play_tale, (*tale, ("tick", IN[1])), ()))
        self.assertIsNone(grace.play_tale((*tale[:2], ("hand",), tale[2]), ()))
        # An off of a part that is off does nobody harm, and shuts of a door make it nobody's own.
        world = World.read("part p\ndoor d out p shut\nkind a\nopen d\ngo d\nplan\nshut d\noff p\noff p")
        own = (0, 1, -1, 1, 0)
        grace = Grace(world, [[1, 1]])
        self.assertEqual(("Refused", 2), raised(grace.play_tale, (("come", 0), ("tick", own), ("tick", own[:4])), ()))
        self.assertIsNone(grace.play_tale((("come", 0), ("tick", own), ("tick", own)), ()))
        self.assertEqual(("Refused", 3), raised(grace.play_tale, (("come", 0), ("tick", own), ("hand",), ("tick", own)), ()))
        self.assertIsNone(grace.play_tale((("come", 0), ("tick", own), ("hand",), ("tick", (0, 1, -1, 1, -1))), ()))

    def test_wrong_entries(self):
        wrong = [*VALUES, ("come", 0), ("come", 1), ("come", True), ["hand"], ("hand", 0), ("tick",), ("tick", Y, Y), "hand",
                 ["tick", Y], ("tick", list(Y)), ("tick", IN[0]), ("tick", None), ("step", 0), ("tick", OUT), (None, Y),
                 ("tick", (False, 0, -1, 1, -1))]
        for value in wrong:
            self.assertEqual(("Refused", 1), raised(GRACE.play_tale, (("come", 0), value, None), (0,)), value)
            if value != ("come", 0):
                self.assertEqual(("Refused", 0), raised(GRACE.play_tale, [value, None], (0,)), value)
        self.assertEqual(("Refused", 0), raised(GRACE.play_tale, (("hand",), ("come", 0)), (0,)))
        self.assertEqual(("Refused", 0), raised(GRACE.play_tale, (("tick", Y),), (0,)))
        self.assertEqual(("Refused", 4), raised(GRACE.play_tale, (("come", 0), *[("hand",)] * 4), (0,)))
        for value in VALUES:
            if not isinstance(value, (list, tuple)):
                self.assertEqual(("Refused", 0), raised(GRACE.play_tale, value, (0,)))
                self.assertEqual(("InvalidSize", "waits"), raised(GRACE.play_tale, value, None))

    def test_waits(self):
        wrong = [value for value in VALUES if value not in ((1,), [1])] + [(-1,), (True,), (1, 1), ("1",), (None,), 3]
        for value in [*wrong, (True,)]:
            self.assertEqual(("InvalidSize", "waits"), raised(GRACE.play_tale, None, value), value)
            self.assertEqual(("InvalidSize", "waits"), raised(GRACE.tried, value), value)
            self.assertEqual(("InvalidSize", "waits"), raised(GRACE.is_ages, value, None), value)
            self.assertEqual(("InvalidSize", "prices"), raised(GRACE.cheapest, value), value)


class Stays(unittest.TestCase):
    def test_by_hand(self):
        heights = tuple(zip(IN, (1, 2, 3)))
        self.assertEqual((3, heights), GRACE.longest(part="p"))
        self.assertIs(True, GRACE.is_longest(part="p", number=3, heights=list(heights)))
        for number in (*VALUES, 4):
            self.assertIs(False, GRACE.is_longest("p", number, heights))
        for value in [*VALUES, *bent(heights), heights[1:], heights[::-1], heights + heights[2:]]:
            if not (isinstance(value, list) and tuple(value) == heights):
                self.assertIs(False, GRACE.is_longest("p", 3, value), value)
        self.assertEqual((0, ()), Grace(World.read("part p\nkind a\nrest\nplan"), [[1]]).longest("p"))
        self.assertIs(True, Grace(World.read("part p\nkind a\nrest\nplan"), [[1]]).is_longest("p", 0, []))
        self.assertIs(False, GRACE.is_ring("p", ()))

    def test_a_stay_of_one_tick(self):
        grace = Grace(THROUGH, [[1, 1]])
        self.assertEqual((1, ((IN[0], 1),)), grace.longest("p"))
        self.assertIs(True, grace.is_longest("p", 1, ((IN[0], 1),)))
        self.assertIs(False, grace.is_longest("p", True, ((IN[0], 1),)))
        self.assertIs(False, grace.is_longest("p", 1, ((IN[0], True),)))

    def test_rings(self):
        world = World.read("part p\ndoor d out p open\ncell c p\nkind a\ngo d\nsee c\nagain 1\nplan\noff p")
        grace = Grace(world, [[1, 2, 1]])
        ring = ((0, 1, 0, 2, -1), (0, 1, 0, 1, -1), (0, 2, 0, 1, -1))
        number, found = grace.longest("p")
        self.assertIsNone(number)
        self.assertEqual(sorted(ring), sorted(found))
        for turned in (ring, list(ring[1:] + ring[:1]), ring + ring, found):
            self.assertIs(True, grace.is_ring(part="p", ring=turned))
        for value in [*VALUES, ring[:2], ring[1:], ring[::-1], *bent(ring)]:
            if value != list(ring):
                self.assertIs(False, grace.is_ring("p", value), value)
        self.assertIs(False, grace.is_longest("p", None, ring))
        self.assertIs(False, grace.is_longest("p", 3, ()))
        # Behind a shut door he stays; a spot that cannot come is in no ring.
        waits = Grace(World.read("part p\ndoor d out p open\ncell c p\nkind a\ngo d\nwait c 1\nrest\nplan"), [[1, 1, 1]])
        self.assertIs(True, waits.is_ring("p", ((0, 1, 0, 1, -1),)))
        self.assertIs(True, waits.is_ring("p", ((0, 2, 0, 0, -1),) * 2))
        self.assertIs(False, waits.is_ring("p", ((0, 3, 0, 0, -1),)))
        self.assertIs(False, waits.is_ring("p", ((0, 0, -1, 1, -1),)))

    def test_as_by_hand(self):
        chance = random.Random(12)
        rings = 0
        for _ in range(200):
            world, times = some(chance, 5, 5)
            grace, hand = Grace(world, times), ByHand(world, times)
            met = hand.firsts()
            for spot in met:
                met += [behind for behind in sorted(hand.tick(spot, 0)[0]) if behind not in met]
            for part, name in enumerate(world.house.parts):
                inside = sorted({spot for spot in met if spot[2] == part})
                heights = {}
                for _ in inside:
                    for spot in inside:
                        behind = [other for other in hand.tick(spot, 0)[0] if other[2] == part]
                        if spot not in heights and all(other in heights for other in behind):
                            heights[spot] = 1 + max([heights[other] for other in behind], default=0)
                number, found = grace.longest(name)
                if len(heights) == len(inside):
                    asked = tuple((spot, heights[spot]) for spot in inside)
                    self.assertEqual((max(heights.values(), default=0), asked), (number, found))
                    self.assertTrue(grace.is_longest(name, number, found))
                    self.assertFalse(grace.is_ring(name, inside))
                    continue
                rings += 1
                self.assertIsNone(number)
                self.assertTrue(found and set(found) <= set(inside))
                for at, spot in enumerate(found):
                    self.assertIn(spot, hand.tick(found[at - 1], 0)[0])
                self.assertTrue(grace.is_ring(name, found))
        self.assertGreater(rings, 50)

    def test_names(self):
        for name in [*VALUES, "q", "d", "out", "a"]:
            if name != "p":
                self.assertEqual(("NoName", name), raised(GRACE.longest, name))
                self.assertEqual(("NoName", name), raised(GRACE.is_longest, name, None, None))
                self.assertEqual(("NoName", name), raised(GRACE.is_ring, name, None))


class Enough(unittest.TestCase):
    def test_by_hand(self):
        is_enough, ages = GRACE.tried((3,))
        self.assertIs(True, is_enough)
        self.assertEqual(((Y, 3), *zip(IN, (2, 1, 0)), (OUT, 3)), ages[1])
        self.assertEqual(((Y, 0), (OUT, 0)), ages[2])
        self.assertEqual(4, len(ages))
        self.assertEqual((False, (TALE, INSIDE)), GRACE.tried(waits=[2]))
        self.assertEqual(((3,),), GRACE.least_waits())
        self.assertEqual((15, (3,)), GRACE.cheapest((5,)))
        self.assertEqual(((), ()), GRACE.needless())
        self.assertIsNone(GRACE.endless())
        self.assertEqual((), STUCK.least_waits())
        self.assertIsNone(STUCK.cheapest(prices=[1]))
        self.assertEqual(((), ()), STUCK.needless())

    def test_as_by_hand(self):
        chance = random.Random(13)
        harmed = 0
        for number in range(120):
            world, times = passing(chance, 3) if number % 2 else some(chance)
            grace, hand = Grace(world, times), ByHand(world, times)
            waits = tuple(chance.randrange(7) for _ in hand.drains)
            is_enough, paper = grace.tried(waits)
            asked, entries = hand.enough(waits)
            self.assertIs(asked, is_enough)
            if is_enough:
                self.assertTrue(grace.is_ages(waits, paper))
                self.assertEqual(self.least_ages(hand, waits), paper)
            else:
                self.assertEqual(entries, len(paper[0]))
                self.assertEqual(paper[1], grace.play_tale(paper[0], waits))
                harmed += 1
        self.assertGreater(harmed, 20)

    def least_ages(self, hand, waits):
        """The least rows that [69] lets, from below."""
        rows = [{spot: hand.wait(waits, done) for spot in hand.firsts()} for done in range(len(hand.deeds) + 1)]
        is_more = True
        while is_more:
            is_more = False
            for done, row in enumerate(rows):
                wait = hand.wait(waits, done)
                for spot, age in list(row.items()):
                    asked = [(row, other, min(age + 1, wait)) for other in hand.tick(spot, done)[0]]
                    if age == wait and done < len(hand.deeds):
                        asked.append((rows[done + 1], hand.deed(spot, done)[0], 0))
                    for some_row, other, least in asked:
                        if some_row.get(other, -1) < least:
                            some_row[other] = least
                            is_more = True
        return tuple(tuple(sorted(row.items())) for row in rows)

    def test_ages_bent(self):
        good = GRACE.tried((3,))[1]
        lists = [list(row) for row in good]
        self.assertIs(True, GRACE.is_ages(waits=(3,), ages=lists))
        self.assertIs(False, GRACE.is_ages((2,), good))
        self.assertIs(False, GRACE.is_ages((4,), good))
        # Greater ages may stand there where no harm follows, and spots that cannot come.
        slack = GRACE.tried((4,))[1]
        self.assertEqual(((Y, 4), *zip(IN, (2, 1, 0)), (OUT, 4)), slack[1])
        more = [(Y, 4), *zip(IN, (3, 2, 1)), (OUT, 4)]
        self.assertIs(True, GRACE.is_ages((4,), (slack[0], more, *slack[2:])))
        own = [((0, 1, 0, left, 1), 3 - left) for left in (1, 2, 3)]
        self.assertIs(True, GRACE.is_ages((4,), (slack[0], sorted([*more, *own]), *slack[2:])))
        self.assertIs(False, GRACE.is_ages((4,), (slack[0], sorted([*more, *own[1:]]), *slack[2:])))
        self.assertIs(False, GRACE.is_ages((4,), (slack[0], [more[0], (IN[0], 4), *more[2:]], *slack[2:])))
        wrong = [good[:3], (*good, good[3]), (good[0], good[1][1:], *good[2:]), (good[0], good[1][:4], *good[2:]),
                 (good[0], good[1][::-1], *good[2:]), (good[0], (good[1][0], *good[1]), *good[2:]),
                 (good[0], ((Y, 2), *good[1][1:]), *good[2:]), (good[0], (*good[1][:4], (OUT, 4)), *good[2:]),
                 (good[0], (good[1][0], (IN[0], 1), *good[1][2:]), *good[2:]),
                 (good[0], (good[1][0], (IN[0], 3), *good[1][2:]), *good[2:]),
                 (good[0], good[1], good[2][:1], good[3]), (*good[:3], good[3][:1]),
                 (*good[:2], (good[2][0], (IN[0], 0), good[2][1]), good[3]),
                 (good[0][:1] + good[0][2:], *good[1:]), (*good[:3], None), (*good[:3], ""), (*good[:3], 1), *VALUES]
        for value in wrong:
            self.assertIs(False, GRACE.is_ages((3,), value), value)
        for value in bent(good):
            if not (isinstance(value, list) and tuple(value) == good) and value not in [
                    (*good[:at], list(row), *good[at + 1:]) for at, row in enumerate(good)]:
                self.assertIs(False, GRACE.is_ages((3,), value), value)

    def test_a_tick_into_the_dark_is_no_age(self):
        world = World.read(HOUSE + "kind a\ngo d\ngo e\nplan\noff p")
        grace = Grace(world, [[1, 3]])
        rows = (((Y, 0), (OUT, 0)),) * 2
        self.assertIs(False, grace.is_ages((), rows))
        calm = Grace(World.read(HOUSE + "kind a\nrest\nplan\noff p"), [[3]])
        self.assertEqual((True, ((((0, 0, -1, 0, -1), 0),),) * 2), calm.tried(()))

    def test_an_off_of_a_dark_part_does_no_harm(self):
        # Nobody can come there; but ages may have such a spot, too.
        grace = Grace(World.read("part p\nkind a\nrest\nplan\noff p\noff p"), [[1]])
        rest, within = ((0, 0, -1, 0, -1), 0), ((0, 0, 0, 0, -1), 0)
        self.assertIs(True, grace.is_ages((), ((rest,), (rest, within), (rest, within))))
        self.assertIs(False, grace.is_ages((), ((rest, within), (rest, within), (rest, within))))
        self.assertIs(False, grace.is_ages((), ((rest,), (rest, within), (rest,))))

    def test_least_waits(self):
        chance = random.Random(14)
        seen = {}
        for number in range(150):
            drains = 2 if number % 3 else 3
            world, times = passing(chance, drains) if number % 2 else some(chance, 3, drains)
            grace, hand = Grace(world, times), ByHand(world, times)
            least = grace.least_waits()
            self.assertEqual(tuple(sorted(least)), least)
            many = len(hand.drains)
            bound = 9 if many < 3 else 5
            enough = {waits for waits in itertools.product(range(bound), repeat=many) if hand.enough(waits)[0]}
            asked = {waits for waits in enough if not any(
                waits[at] and waits[:at] + (waits[at] - 1,) + waits[at + 1:] in enough for at in range(many))}
            self.assertEqual(asked, {waits for waits in least if max(waits, default=0) < bound})
            for waits in least:
                self.assertTrue(hand.enough(waits)[0])
            prices = tuple(chance.randrange(4) for _ in range(many))
            sums = [sum(price * wait for price, wait in zip(prices, waits)) for waits in least]
            self.assertEqual((min(sums), least[sums.index(min(sums))]) if sums else None, grace.cheapest(prices))
            some_zero = tuple(at for at in range(many) if any(waits[at] == 0 for waits in least))
            all_zero = tuple(at for at in some_zero if all(waits[at] == 0 for waits in least))
            self.assertEqual((some_zero, all_zero), grace.needless())
            self.check_endless(grace, hand, not least)
            kind = "many" if len(least) > 1 else "none" if not least else "zero" if not any(least[0]) else "one"
            seen[kind] = seen.get(kind, 0) + 1
        self.assertGreater(min(seen.get(kind, 0) for kind in ("none", "zero", "one", "many")), 3, seen)

    def check_endless(self, grace, hand, is_endless):
        told = grace.endless()
        self.assertEqual(is_endless, told is not None)
        if told is None:
            return
        entries, loops, harm = told
        self.assertTrue(grace.is_endless(entries, loops))
        self.assertEqual(harm, grace.play_tale(entries, (0,) * len(hand.drains)))
        # Gone round often they make a tale for greater waits.
        rounds = list(entries)
        for begin, end in loops[::-1]:
            rounds[end:end] = list(entries[begin:end]) * 30
        self.assertEqual(harm, grace.play_tale(rounds, (30,) * len(hand.drains)))

    def test_least_of_all_rows(self):
        chance = random.Random(15)
        self.assertEqual(((0, 8), (2, 6), (6, 0)), least_enough(2, [(1, 7), (2, 0), (5, 5)]))
        for _ in range(300):
            many = chance.randrange(1, 4)
            worst = [tuple(chance.choice([0, 1, 2, 3, ENDLESS]) for _ in range(many)) for _ in range(chance.randrange(5))]
            rows = list(itertools.product(range(6), repeat=many))
            enough = {row for row in rows if not any(all(one <= other for one, other in zip(row, some)) for some in worst)}
            asked = [row for row in rows if row in enough and not any(
                row[:at] + (row[at] - 1,) + row[at + 1:] in enough for at in range(many))]
            self.assertEqual(tuple(asked), least_enough(many, worst))

    def test_tales_into_the_dark(self):
        world = World.read("part p\ndoor d out p shut\nkind a\ngo d\nplan\noff p\nopen d")
        grace = Grace(world, [[2]])
        first, last, within = (0, 0, -1, 2, -1), (0, 0, -1, 1, -1), (0, 1, 0, 0, -1)
        is_enough, (entries, harm) = grace.tried(())
        self.assertEqual((False, ("dark", "p"), 5), (is_enough, harm, len(entries)))
        self.assertEqual(("tick", within), entries[-1])
        self.assertEqual(harm, grace.play_tale(entries, ()))
        self.assertEqual(((("come", 0), ("tick", last), ("tick", within)), None), (tuple(
            entry for entry in entries if entry != ("hand",)), grace.play_tale((("come", 0), ("tick", first)), ())))
        late = Grace(World.read(world.text() + "\ndrain p\non p"), [[2]])
        entries, loops, harm = late.endless()
        self.assertEqual((("dark", "p"), ()), (harm, loops))
        self.assertIs(True, late.is_endless(entries, loops))
        self.assertEqual((), late.least_waits())

    def test_two_drains(self):
        # Either wait alone will do: whoever is in p goes on to q at once, and is out of it soon.
        world = World.read("part p\ndoor d out p open\ndoor e p out open\nkind a\ngo d\ngo e\n"
                           "plan\nshut d\ndrain p\ndrain p\noff p")
        grace = Grace(world, [[1, 3]])
        self.assertEqual(((0, 3), (1, 2), (2, 1), (3, 0)), grace.least_waits())
        self.assertEqual((3, (3, 0)), grace.cheapest((1, 5)))
        self.assertEqual((6, (0, 3)), grace.cheapest((2, 2)))
        self.assertEqual((0, (0, 3)), grace.cheapest((0, 0)))
        self.assertEqual(((0, 1), ()), grace.needless())
        late = Grace(World.read(HOUSE + "kind a\ngo d\ngo e\nplan\ndrain p\nshut d\ndrain p\noff p"), [[1, 3]])
        self.assertEqual(((0, 3),), late.least_waits())
        self.assertEqual(((0,), (0,)), late.needless())
        self.assertEqual(((),), Grace(World.read("part p\nkind a\nrest\nplan\noff p"), [[1]]).least_waits())

    def test_loops_bent(self):
        entries, loops, harm = STUCK.endless()
        self.assertEqual(INSIDE, harm)
        begin, end = loops[0]
        self.assertEqual(1, end - begin)
        tale = (("come", 0), ("tick", IN[2]), ("hand",), ("tick", IN[1]), ("tick", IN[0]), ("tick", IN[0]), ("hand",), ("hand",))
        self.assertIs(True, STUCK.is_endless(tale, ((5, 6),)))
        for value in [*VALUES, ((4, 5),), ((4, 6),), ((5, 5),), ((6, 5),), ((5, 7),), ((5, 6), (5, 6)), ((5, True),),
                      ([5, 6],), ((5,),), ((5, 6, 6),), ((-3, -2),), ((5, 66),), ((2, 3),), (5, 6), ((None, 6),), ((5, None),), (("5", 6),)]:
            self.assertIs(False, STUCK.is_endless(tale, value), value)
        self.assertIs(False, STUCK.is_endless(tale[:7], ((5, 6),)))
        self.assertEqual(("Refused", 8), raised(STUCK.is_endless, (*tale, ("hand",)), ((5, 6),)))
        self.assertEqual(("Refused", 0), raised(STUCK.is_endless, None, ((5, 6),)))
        self.assertEqual(("Refused", 1), raised(STUCK.is_endless, (("come", 0), ("tick", OUT)), None))
        self.assertIs(False, STUCK.is_endless((("come", 0), ("tick", IN[2]), ("hand",), ("hand",), ("hand",)), ()))
        # A stay in the yard ahead of the first deed is no loop in the drain's place.
        early = (("come", 0), ("tick", Y), ("tick", IN[2]), ("hand",), ("hand",), ("hand",))
        self.assertIs(False, STUCK.is_endless(early, ((1, 2),)))
        world = Grace(World.read(HOUSE + "kind a\ngo d\ngo d\nplan\ndrain p\noff p"), [[1, 3]])
        self.assertIs(True, world.is_endless(early[:5], ((1, 2),)))
        none = Grace(World.read(HOUSE + "kind a\ngo d\ngo d\nplan\noff p"), [[1, 3]])
        self.assertIs(True, none.is_endless((("come", 0), ("tick", IN[2]), ("hand",)), ()))
        self.assertIs(False, none.is_endless((("come", 0), ("tick", IN[2])), ()))

    def test_long_waits(self):
        self.assertIs(True, GRACE.tried((60,))[0])
        self.assertIs(True, GRACE.is_ages((1000,), self.least_ages(ByHand(THROUGH, ((1, 3),)), (1000,))))
        self.assertEqual((3000, (3,)), GRACE.cheapest((1000,)))


if __name__ == "__main__":
    unittest.main()
