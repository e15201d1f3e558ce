"""[1] to [3], [85] to [88]: repairs."""

import itertools
import random
import unittest

from helpers import VALUES, bent, raised, random_world
from lightsout.closed import closed_holds
from lightsout.ends import for_ever, shut_in
from lightsout.errors import InvalidSize
from lightsout.lots import Lots, first_standing, moves
from lightsout.plans import Plan, World
from lightsout.repair import Repair
from lightsout.stage import Stage
from slow import large_world, none_of

HOUSE = "part p\ndoor d out p open\ndoor e p out open\nkind a\ngo d\ngo e\nplan\n"
WORLD = World.read(HOUSE + "off p\non p")
DRAIN, SHUT, OFF = ("drain", "p"), ("shut", "d"), ("off", "p")
CUT = World.read(HOUSE + "shut d\noff p\non p")
SAFE = World.read(HOUSE + "shut d\ndrain p\noff p\non p\nopen d")


def inserted(world, change):
    """The deeds of a plan with those of a change, one by one from behind."""
    deeds = list(world.plan.deeds)
    for place, told in list(change)[::-1]:
        deeds.insert(place, told)
    return tuple(deeds)


def lots_of(world, deeds):
    return Lots(world.with_plan(deeds), none_of(world))


def ends_with(world, deeds, story):
    """The harm that a story by lots ends with; None if it is none."""
    made, harm = world.with_plan(deeds), None
    standing = first_standing(made, none_of(made))
    for what in story:
        found = [move for move in moves(made, none_of(made), standing) if move[0] == what]
        if harm is not None or not found:
            return None
        _, standing, harm = found[0]
    return harm


def pool_of(world):
    house = world.house
    told = [(word, part) for word in ("drain", "off", "on") for part in house.parts]
    return told + [(word, door[0]) for word in ("shut", "open") for door in house.doors] + [("load", cell[0]) for cell in house.cells]


def small_world(chance, deeds):
    """One part, one or two doors, and guests who go in and mostly out again; a shut door and a drain will do."""
    rows = ["part p", "door d out p open", *chance.choice([[], ["door e p out open"]]), "cell c p"]
    ways = [["go d", "go d"], ["go d"], ["go d", "see c", "go d"], ["go d", "set c 1", "go d"]] + [["go d", "go e"]] * (len(rows) - 3)
    rows.extend(["kind a", *chance.choice(ways)])
    if chance.random() < 0.3:
        rows.extend(["kind b", *chance.choice(ways)])
    plan = [chance.choice(["off p", "on p", "shut d", "drain p"]) for _ in range(deeds)]
    plan[chance.randrange(deeds)] = "off p"
    return World.read("\n".join([*rows, "plan", *plan]))


def worlds(seed, many, deeds=3, rows=3, most=400):
    chance = random.Random(seed)
    while many:
        world = small_world(chance, deeds) if chance.random() < 0.6 else random_world(chance, rows=rows, deeds=deeds)
        try:
            if len(Lots(world, none_of(world)).standings) > most:
                continue
        except InvalidSize:
            continue
        many -= 1
        yield chance, world


class Changes(unittest.TestCase):
    def test_changed(self):
        repair = Repair(world=WORLD)
        on = ("on", "p")
        for change, deeds in [((), (OFF, on)), (((0, SHUT),), (SHUT, OFF, on)), (((1, SHUT),), (OFF, SHUT, on)), (((2, SHUT),), (OFF, on, SHUT)),
                              (((0, SHUT), (0, DRAIN)), (SHUT, DRAIN, OFF, on)), (((0, DRAIN), (0, SHUT)), (DRAIN, SHUT, OFF, on)),
                              (((0, DRAIN), (2, SHUT)), (DRAIN, OFF, on, SHUT)), (((1, SHUT), (1, SHUT)), (OFF, SHUT, SHUT, on))]:
            self.assertEqual(Plan(deeds), repair.changed(change))
            self.assertEqual(Plan(deeds), repair.changed(change=list(change)))
        self.assertEqual(WORLD, repair.world)

    def test_errors_of_changes(self):
        repair = Repair(WORLD)
        for call in (repair.changed, repair.verdict):
            for value in VALUES:
                if not isinstance(value, (list, tuple)):
                    self.assertEqual(("InvalidPlan", -1), raised(call, value), value)
                self.assertEqual(("InvalidPlan", 1), raised(call, [(0, SHUT), value]), value)
                self.assertEqual(("InvalidPlan", 0), raised(call, [(value, None)]), value)
                self.assertEqual(("InvalidPlan", 0), raised(call, [(0, value)]), value)
            for change, at in [([(3, SHUT)], 0), ([(-1, SHUT)], 0), ([(1, SHUT), (0, SHUT)], 1), ([(0, ("shut", "p"))], 0), ([(0, ("off", "d"))], 0),
                               ([(0, ("drain", "out"))], 0), ([(0, ("save", "c"))], 0), ([(0, ("stop", "p"))], 0), ([(True, SHUT)], 0),
                               ([[0, SHUT]], 0), ([(0, list(SHUT))], 0), ([(0, SHUT, 0)], 0), ([(0, SHUT)] * 3 + [(0, None)], 3),
                               ([(2, SHUT), (2, SHUT), (1, SHUT)], 2)]:
                self.assertEqual(("InvalidPlan", at), raised(call, change), change)
            self.assertEqual(("InvalidSize", "change"), raised(call, [(0, SHUT)] * 3))
            self.assertEqual(("InvalidSize", "change"), raised(call, ((0, SHUT),) * 5))

    def test_verdicts_by_hand(self):
        repair = Repair(WORLD)
        is_calm, harm, story, numbers = repair.verdict(())
        self.assertEqual((False, ("inside", "p")), (is_calm, harm))
        self.assertEqual(harm, ends_with(WORLD, WORLD.plan.deeds, story))
        self.assertEqual(("come a", "step 0", "hand"), numbers)
        mended = ((0, SHUT), (0, DRAIN))
        is_calm, paper, ends = repair.verdict(change=mended)
        self.assertEqual((True, ()), (is_calm, ends))
        self.assertTrue(closed_holds(WORLD.with_plan(inserted(WORLD, mended)), (None,), paper, None))
        for change in [((0, DRAIN),), ((0, SHUT),), mended[::-1]]:
            self.assertFalse(repair.verdict(change)[0])
        # By one door alone: who is in can never come out behind it.
        lone = World.read("part p\npart q\ndoor d out p open\ndoor f out q open\nkind a\ngo d\ngo d\nkind b\ngo f\nplan\ndrain q")
        self.assertEqual((("for ever", "q"), ("shut in", "q")), Repair(lone).verdict(())[2])
        self.assertEqual((("for ever", "q"), ("shut in", "p"), ("shut in", "q")), Repair(lone).verdict([(1, SHUT)])[2])
        self.assertEqual((("for ever", "p"), ("for ever", "q"), ("shut in", "q")), Repair(lone).verdict([(0, SHUT), (0, DRAIN)])[2])
        self.assertEqual((("for ever", "q"), ("shut in", "p"), ("shut in", "q")), Repair(lone).verdict([(0, DRAIN), (0, SHUT)])[2])

    def test_verdicts_as_trials(self):
        counts = {}
        for chance, world in worlds(85, 40, most=200):
            repair, pool = Repair(world), pool_of(world)
            for _ in range(5):
                places = sorted(chance.randrange(len(world.plan.deeds) + 1) for _ in range(chance.randrange(3)))
                change = [(place, chance.choice(pool)) for place in places]
                deeds = inserted(world, change)
                self.assertEqual(Plan(deeds), repair.changed(change))
                try:
                    lots = lots_of(world, deeds)
                except InvalidSize:
                    self.assertEqual(("InvalidSize", "standings"), raised(repair.verdict, change))
                    continue
                told = repair.verdict(change)
                self.assertIs(lots.calm, told[0])
                made = world.with_plan(deeds)
                if told[0]:
                    self.assertTrue(closed_holds(made, none_of(world), told[1], None))
                    due = [(word, part) for word, call in (("for ever", for_ever), ("shut in", shut_in)) for part in world.house.parts
                           if call(made, part) is not None]
                    self.assertEqual(tuple(due), told[2])
                    counts["ends", bool(due)] = counts.get(("ends", bool(due)), 0) + 1
                else:
                    self.assertIn(told[1], lots.harms)
                    self.assertEqual(told[1], ends_with(world, deeds, told[2]))
                    self.assertEqual(told[1], Stage(made).play(told[3])[1][1])
                self.assertEqual(told, Repair(world).verdict(tuple(change)))
                counts[told[0]] = counts.get(told[0], 0) + 1
        self.assertGreater(min(counts.values()), 5)


class LeastChanges(unittest.TestCase):
    def test_by_hand(self):
        repair = Repair(WORLD)
        self.assertEqual((((0, SHUT), (0, DRAIN)),), repair.least_changes([DRAIN, SHUT], 2))
        self.assertEqual((), repair.least_changes(deeds=(DRAIN, SHUT), most=1))
        self.assertEqual((), repair.least_changes([], 2))
        self.assertEqual(((),), Repair(SAFE).least_changes([DRAIN], 0))
        self.assertEqual((), Repair(SAFE).harmed_changes([DRAIN, SHUT], 2))
        told = repair.harmed_changes(deeds=[DRAIN, SHUT], most=2)
        self.assertEqual([(), *[((place, deed),) for place in range(3) for deed in (DRAIN, SHUT)]], [row[0] for row in told])
        # One plan is told once, by the first of its changes: off ahead of off, or behind it.
        once = repair.harmed_changes([OFF], 1)
        self.assertEqual([(), ((0, OFF),), ((2, OFF),)], [row[0] for row in once])

    def test_as_trials_of_all(self):
        counts = {}
        for chance, world in worlds(86, 80, 2, most=120):
            repair, pool = Repair(world), pool_of(world)
            deeds = chance.sample(pool, min(len(pool), chance.randrange(1, 4)))
            most = chance.randrange(3)
            try:
                calm, harmed = self.trials(world, deeds, most)
            except InvalidSize:
                continue
            given = chance.choice([deeds, tuple(deeds)])
            self.assertEqual(tuple(calm), repair.least_changes(given, most))
            told = repair.harmed_changes(given, most)
            self.assertEqual(harmed, [row[0] for row in told])
            for change, harm, story in told:
                self.assertEqual(harm, ends_with(world, inserted(world, change), story))
            key = len(calm[0]) if calm else None
            counts[key] = counts.get(key, 0) + 1
        self.assertGreater(counts[0], 2)
        self.assertGreater(counts[None], 2)
        self.assertGreater(counts.get(1, 0) + counts.get(2, 0), 2)

    def trials(self, world, deeds, most):
        places, harmed = range(len(world.plan.deeds) + 1), []
        for many in range(most + 1):
            rows = itertools.combinations_with_replacement(places, many)
            changes = [tuple(zip(row, told)) for row in rows for told in itertools.product(deeds, repeat=many)]
            unlike = {}
            for change in changes:
                unlike.setdefault(inserted(world, change), change)
            calm = [change for plan, change in unlike.items() if lots_of(world, plan).calm]
            if calm:
                return calm, harmed
            harmed.extend(unlike.values())
        return [], harmed

    def test_errors(self):
        repair = Repair(WORLD)
        for call in (repair.least_changes, repair.harmed_changes):
            for value in VALUES:
                if not isinstance(value, (list, tuple)):
                    self.assertEqual(("InvalidPlan", -1), raised(call, value, value), value)
                self.assertEqual(("InvalidPlan", 1), raised(call, [SHUT, value], None), value)
                if isinstance(value, bool) or value not in (0, 1, 2):
                    self.assertEqual(("InvalidSize", "most"), raised(call, [SHUT], value), value)
            open_d, shut_e, open_e = ("open", "d"), ("shut", "e"), ("open", "e")
            for deeds, at in [([SHUT, DRAIN, SHUT], 2), ([("off", "q")], 0), ([list(SHUT)], 0), ([SHUT, ("drain", "out")], 1),
                              ([SHUT, DRAIN, OFF, open_d, shut_e, SHUT], 5)]:
                self.assertEqual(("InvalidPlan", at), raised(call, deeds, 9), deeds)
            self.assertEqual(("InvalidSize", "deeds"), raised(call, [SHUT, DRAIN, OFF, open_d, shut_e], None))
            self.assertEqual(("InvalidSize", "deeds"), raised(call, [SHUT, DRAIN, OFF, open_d, shut_e, open_e], 3))
            self.assertEqual(("InvalidSize", "most"), raised(call, [SHUT, DRAIN, OFF, open_d], 3))


class Spare(unittest.TestCase):
    def test_by_hand(self):
        told = Repair(SAFE).spare()
        self.assertEqual([False, False, True, False, True], [story is None for story in told])
        for at, story in enumerate(told):
            if story is not None:
                self.assertIsNotNone(ends_with(SAFE, SAFE.plan.deeds[:at] + SAFE.plan.deeds[at + 1:], story))
        self.assertEqual((), Repair(WORLD.with_plan([])).spare())
        self.assertEqual(("Refused", 0), raised(Repair(WORLD).spare))

    def test_as_trials(self):
        counts = {}
        for _, world in worlds(88, 60):
            deeds, repair = world.plan.deeds, Repair(world)
            if not lots_of(world, deeds).calm:
                self.assertEqual(("Refused", 0), raised(repair.spare))
                continue
            told = repair.spare()
            self.assertEqual(len(deeds), len(told))
            for at, story in enumerate(told):
                left = deeds[:at] + deeds[at + 1:]
                self.assertEqual(lots_of(world, left).calm, story is None)
                if story is not None:
                    self.assertIsNotNone(ends_with(world, left, story))
                counts[story is None] = counts.get(story is None, 0) + 1
        self.assertGreater(min(counts.values()), 3)


class Cuts(unittest.TestCase):
    def test_by_hand(self):
        least, greatest, needful = Repair(CUT).drain_cuts([(0, "p"), (1, "p")])
        self.assertEqual(([((1, "p"),)], [((0, "p"),)], ((1, "p"),)),
                         ([lot for lot, _ in least], [lot for lot, _ in greatest], needful))
        self.assertTrue(closed_holds(CUT.with_plan([SHUT, DRAIN, OFF, ("on", "p")]), (None,), least[0][1], None))
        self.assertEqual(("inside", "p"), ends_with(CUT, (DRAIN, SHUT, OFF, ("on", "p")), greatest[0][1]))
        self.assertEqual((((((), greatest[0][1])),), ()), ((((), greatest[0][1]),), Repair(CUT).drain_cuts([])[0]))
        calm = Repair(SAFE).drain_cuts(points=[(0, "p")])
        self.assertEqual(([()], (), ()), ([lot for lot, _ in calm[0]], calm[1], calm[2]))

    def test_parts_in_order_at_one_place(self):
        world = World.read("part q\npart p\ndoor d out p open\ndoor e out q open\nkind a\ngo d\nkind b\ngo e\nplan\nshut d\nshut e\noff p\n"
                           "off q")
        repair = Repair(world)
        points = [(2, "p"), (3, "q"), (2, "q"), (0, "p")]
        least, greatest, needful = repair.drain_cuts(points)
        self.assertEqual([((2, "q"), (2, "p")), ((2, "p"), (3, "q"))], [lot for lot, _ in least])
        self.assertEqual([((0, "p"), (2, "p")), ((0, "p"), (2, "q"), (3, "q"))], [lot for lot, _ in greatest])
        self.assertEqual(((2, "p"),), needful)
        self.assertIs(True, repair.is_drain_cuts(points[::-1], least, greatest))

    def test_as_trials_of_all_lots(self):
        counts = {}
        for chance, world in worlds(87, 40, 3, most=250):
            repair = Repair(world)
            whole = [(place, part) for place in range(len(world.plan.deeds) + 1) for part in world.house.parts]
            points = chance.sample(whole, min(len(whole), chance.randrange(5)))
            ranked = [point for point in whole if point in points]
            lots = [lot for size in range(len(ranked) + 1) for lot in itertools.combinations(ranked, size)]
            try:
                calm = {lot: lots_of(world, inserted(world, [(place, ("drain", part)) for place, part in lot])).calm for lot in lots}
            except InvalidSize:
                continue
            least, greatest, needful = repair.drain_cuts(chance.choice([points, tuple(points)]))
            due = [lot for lot in lots if calm[lot] and not any(calm[two] and set(two) < set(lot) for two in lots)]
            self.assertEqual(due, [lot for lot, _ in least])
            self.assertEqual([lot for lot in lots if not calm[lot] and not any(not calm[two] and set(two) > set(lot) for two in lots)],
                             [lot for lot, _ in greatest])
            self.assertEqual(tuple(point for point in ranked if due and all(point in lot for lot in due)), needful)
            for lot, paper in least:
                made = world.with_plan(inserted(world, [(place, ("drain", part)) for place, part in lot]))
                self.assertTrue(closed_holds(made, none_of(world), paper, None))
            for lot, story in greatest:
                self.assertIsNotNone(ends_with(world, inserted(world, [(place, ("drain", part)) for place, part in lot]), story))
            self.assertIs(True, repair.is_drain_cuts(points, least, list(greatest)[::-1]))
            # A lot of points makes the plan calm exactly if it has, for each greatest lot, a point that this one lacks.
            for lot in lots:
                self.assertEqual(calm[lot], all(set(lot) - set(one) for one, _ in greatest))
            key = (len(least) > 0, len(greatest) > 0)
            counts[key] = counts.get(key, 0) + 1
        self.assertEqual(3, len(counts))

    def test_each_list_bent(self):
        repair, points = Repair(CUT), [(0, "p"), (1, "p")]
        least, greatest, _ = repair.drain_cuts(points)
        self.assertIs(True, repair.is_drain_cuts(points=points, least=list(least), greatest=greatest))
        empty = (((), greatest[0][1]),)
        # The two lists, a paper and a story's row may be lists.
        lists = [[told[:], [*told], ((told[0][0], [*told[0][1]]),)] for told in (least, greatest)]
        texts = [[str(told) for told in row] for row in lists]
        for wrong in [*VALUES, *bent(least)]:
            self.assertIs(str(wrong) in texts[0], repair.is_drain_cuts(points, wrong, greatest), wrong)
        for wrong in [*VALUES, *bent(greatest), greatest * 2, greatest + empty, empty]:
            self.assertIs(str(wrong) in texts[1], repair.is_drain_cuts(points, least, wrong), wrong)
        self.assertIs(True, repair.is_drain_cuts(points, lists[0][2], lists[1][2]))
        for story in [*VALUES, "hand", 0]:
            self.assertIs(False, repair.is_drain_cuts(points, least, ((greatest[0][0], story),)), story)
        for paper in VALUES:
            self.assertIs(False, repair.is_drain_cuts(points, ((least[0][0], paper),), greatest), paper)
        both = ((((0, "p"), (1, "p")), least[0][1]),)
        self.assertIs(False, repair.is_drain_cuts(points, both, greatest))
        self.assertIs(False, repair.is_drain_cuts(points, least + both, greatest))
        self.assertIs(False, repair.is_drain_cuts(points, least * 2, greatest))
        self.assertIs(False, repair.is_drain_cuts(points, (), greatest))
        self.assertIs(False, repair.is_drain_cuts(points, least, ()))
        self.assertIs(False, repair.is_drain_cuts(points[:1], least, greatest))

    def test_lots_in_their_order(self):
        world = World.read("part q\npart p\ndoor d out p open\ndoor e out q open\nkind a\ngo d\nkind b\ngo e\nplan\nshut d\nshut e\noff p\n"
                           "off q")
        repair, points = Repair(world), [(2, "p"), (2, "q")]
        least, greatest, _ = repair.drain_cuts(points)
        self.assertEqual([((2, "q"), (2, "p"))], [lot for lot, _ in least])
        self.assertIs(True, repair.is_drain_cuts(points, least, greatest))
        (lot, paper), = least
        for wrong in [lot[::-1], lot + lot[:1], lot[:1] + lot, lot[:1], list(lot)]:
            self.assertIs(False, repair.is_drain_cuts(points, ((wrong, paper),), greatest), wrong)
        twice = [((one[0], one[0]), story) for one, story in greatest]
        self.assertIs(False, repair.is_drain_cuts(points, least, twice))

    def test_the_least_ones_in_order(self):
        world = World.read(HOUSE + "shut d\non p\noff p")
        points = [(1, "p"), (2, "p")]
        least, greatest, needful = Repair(world).drain_cuts(points)
        self.assertEqual([((1, "p"),), ((2, "p"),)], [lot for lot, _ in least])
        self.assertEqual(([()], ()), ([lot for lot, _ in greatest], needful))
        self.assertIs(True, Repair(world).is_drain_cuts(points, least, greatest))
        self.assertIs(False, Repair(world).is_drain_cuts(points, least[::-1], greatest))

    def test_errors(self):
        repair = Repair(CUT)
        for call in (repair.drain_cuts, lambda points: repair.is_drain_cuts(points, None, None)):
            for value in VALUES:
                if not isinstance(value, (list, tuple)):
                    self.assertEqual(("InvalidPlan", -1), raised(call, value), value)
                self.assertEqual(("InvalidPlan", 1), raised(call, [(3, "p"), value]), value)
            for points, at in [([(4, "p")], 0), ([(-1, "p")], 0), ([(True, "p")], 0), ([(0, "d")], 0), ([(0, "out")], 0), ([[0, "p"]], 0),
                               ([(0, "p"), (1, "p"), (0, "p")], 2), ([(0, ["p"])], 0), ([(0, "p", 0)], 0)]:
                self.assertEqual(("InvalidPlan", at), raised(call, points), points)
            two = World.read("part p\npart q\ndoor d out p open\nplan\non p\non p\non p")
            points = [(place, part) for place in range(4) for part in "pq"]
            call = Repair(two).drain_cuts
            self.assertEqual(("InvalidSize", "points"), raised(call, points[:7]))
            self.assertEqual(("InvalidPlan", 7), raised(call, [*points[:7], points[0]]))
            self.assertIsNone(raised(call, points[:6]))

    def test_too_many_standings(self):
        texts = "".join(f"kind {name}\ngo d\nsee c\nset c 1\nset e 2\ngo d\n" for name in "ab")
        repair = Repair(World.read(f"part p\ndoor d out p open\ncell c p\ncell e p\n{texts}plan\ndrain p\noff p"))
        for call in [lambda: repair.verdict(()), lambda: repair.least_changes([DRAIN], 1), lambda: repair.harmed_changes([DRAIN], 1),
                     repair.spare, lambda: repair.drain_cuts([(0, "p")])]:
            self.assertEqual(("InvalidSize", "standings"), raised(call))
        self.assertIsNone(raised(repair.changed, [(0, DRAIN)]))

    def test_just_as_many_standings_as_are_let(self):
        repair, on = Repair(large_world(4)), ("on", "p")
        self.assertTrue(repair.verdict(())[0])
        self.assertEqual(("InvalidSize", "standings"), raised(repair.verdict, [(0, on)]))
        self.assertEqual((None,) * 4, repair.spare())
        self.assertEqual(((),), repair.least_changes([on], 1))
        self.assertEqual(("InvalidSize", "standings"), raised(Repair(large_world(5)).spare))
        # What is harmed is gone through to its end, too.
        off = large_world(3).with_plan([("on", "p")] * 4 + [("off", "p")])
        self.assertEqual(("InvalidSize", "standings"), raised(Repair(off).verdict, ()))


if __name__ == "__main__":
    unittest.main()
