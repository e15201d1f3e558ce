"""[1] to [3], [89], [90]: hands that fall and begin anew."""

import itertools
import random
import unittest

from helpers import VALUES, bent, raised, random_world
from lightsout.anew import Anew
from lightsout.errors import InvalidSize
from lightsout.lots import Lots, first_standing, moves
from lightsout.plans import World
from lightsout.repair import Repair
from slow import large_world, none_of

HOUSE = "part p\ndoor d out p open\ndoor e p out open\nkind a\ngo d\ngo e\nplan\n"
SAFE = World.read(HOUSE + "shut d\ndrain p\noff p\non p\nopen d")
Y, IN, OUT = (0, 0, -1, None), (0, 1, 0, None), (0, 2, -1, None)
FALL, HAND = ("fall",), ("hand",)


def all_marks(many):
    return sorted((0, *lot) for size in range(many + 1) for lot in itertools.combinations(range(1, many + 1), size))


def moves_with_falls(world, marks, standing):
    found = list(moves(world, none_of(world), standing))
    row, places, hand = standing
    if hand not in marks:
        found.append((FALL, (row, places, max(mark for mark in marks if mark <= hand)), None))
    return found


def all_standings(world, marks):
    """All that come of any number of falls, and the harms."""
    met, harms = [first_standing(world, none_of(world))], set()
    seen = set(met)
    for standing in met:
        for _, behind, harm in moves_with_falls(world, marks, standing):
            if harm is not None:
                harms.add(harm)
            elif behind not in seen:
                seen.add(behind)
                met.append(behind)
    return met, harms


def worlds(seed, many, deeds=3, most=150):
    chance = random.Random(seed)
    while many:
        world = random_world(chance, rows=3, deeds=deeds)
        if chance.random() < 0.6:
            plan = [("shut", "d"), ("drain", "p"), ("off", "p"), ("on", "p"), ("open", "d")]
            at = chance.randrange(3)
            world = world.with_plan(plan[at:at + deeds])
        try:
            if len(Lots(world, none_of(world)).standings) <= most:
                many -= 1
                yield chance, world
        except InvalidSize:
            pass


class OneFall(unittest.TestCase):
    def test_by_hand(self):
        anew = Anew(world=SAFE)
        self.assertEqual(SAFE, anew.world)
        self.assertIsNone(anew.one_fall(5, 0))
        story = anew.one_fall(row=5, mark=2)
        self.assertEqual(("inside", "p"), self.harm_of(SAFE, 5, 2, story))
        # From off on: the door is still shut, and the part empty.
        self.assertIsNone(anew.one_fall(3, 2))
        self.assertIsNone(anew.one_fall(0, 0))
        self.assertEqual((5, 2, story), anew.once((0, 2)))
        self.assertIsNone(anew.once(marks=[0, 2, 4]))
        self.assertIsNone(anew.once((0,)))
        harmed = Anew(World.read(HOUSE + "off p"))
        row, mark, story = harmed.once((0,))
        self.assertEqual((0, 0, ("inside", "p")), (row, mark, self.harm_of(harmed.world, 0, 0, story)))

    def harm_of(self, world, row, mark, story):
        """The harm that a story ends with in the plan with one fall."""
        deeds = world.plan.deeds
        made, harm = world.with_plan(deeds[:row] + deeds[mark:]), None
        standing = first_standing(made, none_of(made))
        for what in story:
            found = [move for move in moves(made, none_of(made), standing) if move[0] == what]
            self.assertIsNone(harm)
            _, standing, harm = found[0]
        return harm

    def test_as_trials(self):
        counts = {}
        for _, world in worlds(89, 50):
            anew, deeds = Anew(world), world.plan.deeds
            many = len(deeds)
            calm = {}
            try:
                for row in range(many + 1):
                    for mark in range(row + 1):
                        calm[row, mark] = Lots(world.with_plan(deeds[:row] + deeds[mark:]), none_of(world)).calm
            except InvalidSize:
                continue
            for (row, mark), is_calm in calm.items():
                story = anew.one_fall(row, mark)
                self.assertEqual(is_calm, story is None)
                if not is_calm:
                    self.assertIsNotNone(self.harm_of(world, row, mark, story))
                counts[is_calm] = counts.get(is_calm, 0) + 1
            told = anew.falls()
            self.assertEqual([(row, mark) for row in range(many + 1) for mark in range(row)], [fall[:2] for fall in told])
            self.assertEqual([anew.one_fall(row, mark) for row, mark, _ in told], [fall[2] for fall in told])
            good = []
            for marks in all_marks(many):
                rows = [(row, max(mark for mark in marks if mark <= row)) for row in range(many + 1)]
                wrong = [pair for pair in rows if not calm[pair]]
                self.assertEqual((*wrong[0], anew.one_fall(*wrong[0])) if wrong else None, anew.once(marks))
                if not wrong:
                    good.append(marks)
            self.assertEqual(tuple(good), anew.good_once())
        self.assertGreater(min(counts.values()), 20)

    def test_errors(self):
        anew = Anew(SAFE)
        for value in VALUES:
            if isinstance(value, bool) or value not in (0, 1, 2):
                self.assertEqual(("InvalidSize", "row"), raised(anew.one_fall, 2, value), value)
            if isinstance(value, bool) or value not in (0, 1, 2):
                self.assertEqual(("InvalidSize", "row"), raised(anew.one_fall, value, 0), value)
        for row, mark in [(6, 0), (1, 2), (-1, -1), (0, 1), (True, 0), (1, False), (5, -1)]:
            self.assertEqual(("InvalidSize", "row"), raised(anew.one_fall, row, mark))
        self.assertIsNone(raised(anew.one_fall, 5, 5))

    def test_without_deeds(self):
        anew = Anew(SAFE.with_plan([]))
        self.assertEqual(((), ((0,),), ((0,),), None), (anew.falls(), anew.good_once(), anew.good_ever(), anew.once((0,))))


class Ever(unittest.TestCase):
    def test_by_hand(self):
        anew = Anew(SAFE)
        self.assertTrue(anew.ever((0,))[0])
        is_good, harm, entries = anew.ever(marks=(0, 2))
        self.assertEqual((False, ("inside", "p")), (is_good, harm))
        self.assertIn(FALL, entries)
        self.assertEqual(harm, anew.play_falls((0, 2), entries)[1])
        self.assertTrue(anew.ever([0, 2, 4])[0])
        self.assertIn((0, 2, 4), anew.good_ever())
        self.assertNotIn((0, 2), anew.good_ever())
        story = [("step", Y, False), *[HAND] * 1, ("step", IN, True), *[HAND] * 4, FALL]
        self.assertEqual(2, anew.play_falls((0, 2), story)[0][2])
        self.assertEqual(("inside", "p"), anew.play_falls((0, 2), [*story, ("step", Y, False), HAND])[1])
        self.assertEqual(4, anew.play_falls((0, 2, 4), story)[0][2])

    def test_good_once_is_not_enough(self):
        # One fall lets the light be off where the plan goes on; a second one goes back ahead of the shut door.
        counts = {}
        for _, world in worlds(91, 60, 4, 120):
            anew = Anew(world)
            try:
                once, ever = anew.good_once(), anew.good_ever()
            except InvalidSize:
                continue
            self.assertLessEqual(set(ever), set(once))
            counts[once == ever] = counts.get(once == ever, 0) + 1
        self.assertGreater(counts[True], 10)

    def test_as_plain_searches(self):
        counts = {}
        for chance, world in worlds(90, 50):
            anew = Anew(world)
            good = []
            for marks in all_marks(len(world.plan.deeds)):
                standings, harms = all_standings(world, marks)
                told = anew.ever(chance.choice([marks, list(marks)]))
                self.assertEqual(not harms, told[0])
                if told[0]:
                    good.append(marks)
                    self.assertTrue(anew.is_closed(marks, told[1]))
                    self.assertEqual(set(standings), set(told[1]))
                    self.assertEqual(len(standings), len(told[1]))
                else:
                    self.assertIn(told[1], harms)
                    self.assertEqual(told[1], anew.play_falls(marks, told[2])[1])
                self.assertIs(not harms, anew.is_closed(marks, tuple(standings)))
                counts[told[0]] = counts.get(told[0], 0) + 1
            self.assertEqual(tuple(good), anew.good_ever())
        self.assertGreater(min(counts.values()), 20)

    def test_closed(self):
        anew = Anew(SAFE)
        standings = anew.ever((0,))[1]
        self.assertIs(True, anew.is_closed(marks=[0], standings=list(standings)[::-1]))
        for at in range(len(standings)):
            self.assertIs(False, anew.is_closed((0,), standings[:at] + standings[at + 1:]))
        for value in [*VALUES, standings + standings[-1:], *bent(standings[:1])]:
            if value != list(standings[:1]):
                self.assertIs(False, anew.is_closed((0,), value), value)
        for at in range(3):
            for one in bent(standings[at]):
                self.assertIs(False, anew.is_closed((0,), (*standings, one)), one)
        # No move of these falls ahead of another mark; with (0, 2) they are not closed, and do harm.
        self.assertIs(False, anew.is_closed((0, 2), all_standings(SAFE, (0, 2))[0]))
        more = dict.fromkeys(standings)
        for row, places, hand in standings:
            if hand == 5:
                more[row, (Y, OUT), hand] = None
        self.assertIs(True, anew.is_closed((0,), tuple(more)))

    def test_marks(self):
        anew = Anew(SAFE)
        calls = [anew.once, anew.ever, lambda marks: anew.is_closed(marks, None), lambda marks: anew.play_falls(marks, None)]
        for call in calls:
            for value in VALUES:
                self.assertEqual(("InvalidSize", "marks"), raised(call, value), value)
                if isinstance(value, bool) or value not in (1, 2):
                    self.assertEqual(("InvalidSize", "marks"), raised(call, [0, value]), value)
            for marks in [(), (1,), (0, 0), (0, 2, 2), (0, 3, 1), (0, 6), (-1, 0), (False,), (0, True), (0, (1,))]:
                self.assertEqual(("InvalidSize", "marks"), raised(call, marks), marks)
        self.assertIsNone(raised(anew.once, (0, 1, 2, 3, 4, 5)))


class Plays(unittest.TestCase):
    def test_by_hand(self):
        anew = Anew(SAFE)
        start = first_standing(SAFE, (None,))
        self.assertEqual((start, None), anew.play_falls((0,), ()))
        self.assertEqual((start, None), anew.play_falls(marks=(0,), entries=[]))
        standing, harm = anew.play_falls((0, 1), [HAND, HAND, FALL])
        self.assertEqual((1, None), (standing[2], harm))
        dark = Anew(World.read(HOUSE + "off p\non p"))
        standing, harm = dark.play_falls((0,), [("step", Y, False), HAND])
        self.assertEqual((0, ("inside", "p")), (standing[2], harm))
        self.assertIn(IN, standing[1])
        standing, harm = dark.play_falls((0,), [HAND, ("step", Y, False)])
        self.assertEqual((1, ("dark", "p")), (standing[2], harm))

    def test_what_can_not_be(self):
        anew = Anew(SAFE)
        for value in VALUES:
            if not isinstance(value, (list, tuple)):
                self.assertEqual(("Refused", 0), raised(anew.play_falls, (0,), value), value)
            self.assertEqual(("Refused", 1), raised(anew.play_falls, (0,), [HAND, value, None]), value)
        for entries, at in [([FALL], 0), ([HAND, FALL, FALL], 2), ([("step", Y, True)], 0), ([("step", IN, False)], 0), ([("step", Y, 0)], 0),
                            ([("step", Y, False)] * 2, 1), ([HAND, ("step", Y, False)], 1), ([HAND] * 6, 5), ([("step", Y, False), HAND, HAND], 2),
                            ([["hand"]], 0), ([("fall", 0)], 0), ([["fall"]], 0), ([*[HAND] * 3, ("hand", 3)], 3), (["hand"], 0)]:
            self.assertEqual(("Refused", at), raised(anew.play_falls, (0,), entries), entries)
        self.assertEqual(("Refused", 2), raised(anew.play_falls, (0, 2), [HAND, HAND, FALL]))
        dark = Anew(World.read(HOUSE + "off p\non p"))
        self.assertEqual(("Refused", 2), raised(dark.play_falls, (0,), [("step", Y, False), HAND, FALL]))
        self.assertEqual(("InvalidSize", "marks"), raised(dark.play_falls, (1,), 0))

    def test_random_entries(self):
        falls = 0
        for chance, world in worlds(93, 40):
            marks = chance.choice(all_marks(len(world.plan.deeds)))
            anew, entries = Anew(world), []
            standing, end = first_standing(world, none_of(world)), None
            while len(entries) < 12 and end is None:
                told = moves_with_falls(world, marks, standing)
                if not told:
                    break
                what, standing, end = chance.choice(told)
                entries.append(what)
                falls += what == FALL
            self.assertEqual((standing, end), anew.play_falls(marks, entries))
            if end is not None:
                self.assertEqual(("Refused", len(entries)), raised(anew.play_falls, marks, [*entries, HAND]))
        self.assertGreater(falls, 10)

    def test_again_and_too_many(self):
        anew, other = Anew(SAFE), Anew(SAFE)
        self.assertEqual(other.ever((0, 2)), [anew.falls(), anew.good_ever(), anew.ever((0, 2))][2])
        self.assertEqual(anew.falls(), other.falls())
        self.assertEqual(Repair(SAFE).spare()[0] is None, anew.one_fall(5, 0) is not None)
        texts = "".join(f"kind {name}\ngo d\nsee c\nset c 1\nset e 2\ngo d\n" for name in "ab")
        anew = Anew(World.read(f"part p\ndoor d out p open\ncell c p\ncell e p\n{texts}plan\ndrain p"))
        full = Anew(large_world(4))
        self.assertEqual((None, None), (full.one_fall(4, 4), full.one_fall(2, 2)))
        self.assertEqual(("InvalidSize", "standings"), raised(full.one_fall, 4, 3))
        self.assertEqual(("InvalidSize", "standings"), raised(full.once, (0,)))
        self.assertIsNone(full.once((0, 1, 2, 3, 4)))
        self.assertEqual((True, 5000), (full.ever((0,))[0], len(full.ever((0,))[1])))
        self.assertEqual(("InvalidSize", "standings"), raised(Anew(large_world(5)).ever, (0,)))
        # Ahead of a harm few are met.
        self.assertFalse(Anew(anew.world.with_plan([("off", "p")])).ever((0,))[0])
        for call in [lambda: anew.one_fall(0, 0), anew.falls, lambda: anew.once((0,)), anew.good_once, lambda: anew.ever((0,)), anew.good_ever]:
            self.assertEqual(("InvalidSize", "standings"), raised(call))


if __name__ == "__main__":
    unittest.main()
