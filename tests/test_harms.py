"""[1] to [3], [40] to [44], [47], [48]: what a harm needs."""

import itertools
import random
import unittest

from helpers import VALUES, bent, raised, random_world
from lightsout.closed import closed_holds, closed_paper
from lightsout.harms import (Least, Meeting, Verdict, check_behind, check_least, check_meeting, check_verdict, comes_with, harm_names,
                             harms_meet, least_deeds, least_kinds, only_behind)
from lightsout.lots import Lots, first_standing, moves
from lightsout.plans import World
from slow import all_harms, none_of

HOUSE = "part p\npart q\ndoor d out p open\ndoor e p q open\ncell c p\n"
WORLD = World.read(HOUSE + "kind a\ngo d\nsee c\nset c 1\nwhen 0 3\ngo e\nkind b\ngo d\nset c 1\nplan\noff q")
DARK, IN = ("dark", "q"), ("inside", "q")
HALL = World.read("part p\ndoor d out p open\nkind k\ngo d\ngo d\nplan\ndrain p\noff p\non p")
Y = (0, 0, -1, None)


def worlds(seed, many, kinds=2, deeds=3, rows=3):
    chance = random.Random(seed)
    for _ in range(many):
        world = random_world(chance, kinds=kinds, rows=rows, deeds=deeds)
        if chance.random() < 0.6:
            world = world.with_plan([("drain", "p"), ("off", "p"), *world.plan.deeds][:deeds])
        yield chance, world


def leads(world, caps, whats):
    """The standings along whats, and the harm of the last one; None if one of them is no move."""
    standings, harm = [first_standing(world, caps)], None
    for what in whats:
        found = [move for move in moves(world, caps, standings[-1]) if move[0] == what]
        if harm is not None or not found:
            return None
        _, behind, harm = found[0]
        standings.append(behind)
    return standings, harm


def near(world, standing):
    """The harms that are one move away."""
    return {harm for _, _, harm in moves(world, none_of(world), standing)} - {None}


class Example(unittest.TestCase):
    def test_example(self):
        self.assertIsNone(comes_with(WORLD, DARK, (1, 0)).whats)
        self.assertEqual((((0,),), ((1,),), ((),)), (least_kinds(WORLD, DARK).lots, least_kinds(WORLD, DARK).barred,
                                                     least_deeds(WORLD, DARK).barred))
        self.assertEqual((None, None), (harms_meet(WORLD, DARK, IN).both, only_behind(WORLD, DARK, IN).paper))

    def test_one_alone(self):
        # The yard, rows 1, 2, and 3 with c 1, ahead of the deed and behind it.
        paper = comes_with(WORLD, DARK, (1, 0)).paper
        self.assertEqual({0, 1, 2, 3}, {standing[1][0][1] for standing in paper})
        self.assertEqual(4 * 2, len(paper))


class Names(unittest.TestCase):
    def test_order(self):
        self.assertEqual((("inside", "p"), ("inside", "q"), ("dark", "p"), ("dark", "q"), ("stale", "c"), ("lost", "c")), harm_names(WORLD))
        self.assertEqual((("inside", "p"), ("dark", "p")), harm_names(world=HALL))

    def test_errors_and_their_order(self):
        calls = [lambda harm, caps: comes_with(WORLD, harm, caps), lambda harm, caps: check_verdict(WORLD, harm, caps, None)]
        for call in calls:
            for value in VALUES:
                self.assertEqual(("InvalidSize", "caps"), raised(call, value, value), value)
            for caps in ((1,), (1, 1, 1), [1, 1], (True, 1), (1, -1), (1, "1"), (None, (None,))):
                self.assertEqual(("InvalidSize", "caps"), raised(call, None, caps), caps)
        calls = [lambda harm: comes_with(WORLD, harm, (1, 0)), lambda harm: check_verdict(WORLD, harm, (1, 0), None),
                 lambda harm: least_kinds(WORLD, harm), lambda harm: least_deeds(WORLD, harm),
                 lambda harm: check_least(WORLD, harm, None, None), lambda harm: harms_meet(WORLD, harm, harm),
                 lambda harm: harms_meet(WORLD, DARK, harm), lambda harm: check_meeting(WORLD, harm, harm, None),
                 lambda harm: check_meeting(WORLD, DARK, harm, None), lambda harm: only_behind(WORLD, harm, harm),
                 lambda harm: only_behind(WORLD, DARK, harm), lambda harm: check_behind(WORLD, harm, harm, None),
                 lambda harm: check_behind(WORLD, DARK, harm, None)]
        for call in calls:
            for value in [*VALUES, ("shut in", "p"), ("for ever", "p"), ("inside", 0), ("inside",), ("inside", "p", "q"), (None, "p")]:
                self.assertEqual(("InvalidSize", "harm"), raised(call, value), value)
            for harm in (("inside", "c"), ("dark", "out"), ("stale", "p"), ["lost", ""]):
                self.assertEqual(("NoName", harm[1]), raised(call, harm), harm)
        for call in (harms_meet, only_behind, lambda *told: check_meeting(*told, None), lambda *told: check_behind(*told, None)):
            self.assertEqual(("InvalidSize", "other"), raised(call, WORLD, DARK, list(DARK)))
            self.assertEqual(("InvalidSize", "harm"), raised(call, WORLD, ("off", "q"), ("off", "q")))
            self.assertEqual(("NoName", "z"), raised(call, WORLD, ("dark", "z"), None))
        many = HALL.with_plan([("on", "p")] * 6)
        self.assertEqual(("InvalidSize", "deeds"), raised(least_deeds, many, IN[:1] + ("p",)))
        self.assertEqual(("NoName", "q"), raised(least_deeds, many, IN))
        for value in VALUES + ["kind", "Kinds", ["kinds"], ("deeds",)]:
            self.assertEqual(("InvalidSize", "of"), raised(check_least, WORLD, DARK, value, None), value)
        self.assertEqual(("NoName", "z"), raised(check_least, WORLD, ("dark", "z"), None, None))

    def test_too_many_standings(self):
        texts = "".join(f"kind {name}\ngo d\nsee c\nset c 1\nset e 2\ngo d\n" for name in "ab")
        world = World.read(f"part p\ndoor d out p open\ncell c p\ncell e p\n{texts}plan\ndrain p\noff p")
        for call in (least_kinds, least_deeds):
            self.assertEqual(("InvalidSize", "standings"), raised(call, world, ("stale", "c")))
        self.assertEqual(("InvalidSize", "standings"), raised(comes_with, world, ("stale", "c"), (None, None)))
        self.assertEqual(("InvalidSize", "standings"), raised(harms_meet, world, ("stale", "c"), ("stale", "e")))
        self.assertEqual(("InvalidSize", "standings"), raised(only_behind, world, ("stale", "c"), ("lost", "e")))


class Verdicts(unittest.TestCase):
    def test_under_each_sort_of_caps(self):
        counts = {}
        for chance, world in worlds(41, 60):
            caps = tuple(chance.choice([None, None, 0, 1, 2]) for _ in world.kinds)
            lots = Lots(world, caps, 20000)
            for harm in all_harms(world):
                verdict = comes_with(world, chance.choice([harm, list(harm)]), caps)
                self.assertIsInstance(verdict, Verdict)
                self.assertEqual(harm in lots.harms, verdict.paper is None)
                self.assertEqual(harm not in lots.harms, verdict.whats is None)
                if verdict.paper is None:
                    self.assertEqual(harm, leads(world, caps, verdict.whats)[1])
                else:
                    self.assertTrue(closed_holds(world, caps, verdict.paper, harm))
                self.assertTrue(check_verdict(world, harm, caps, verdict))
                self.assertTrue(verdict.is_like(comes_with(world, harm, caps)))
                counts[verdict.paper is None] = counts.get(verdict.paper is None, 0) + 1
        self.assertGreater(min(counts.values()), 30)

    def test_one_thing_bent(self):
        harm, caps = ("inside", "p"), (None,)
        verdict = comes_with(HALL, harm, caps)
        self.assertIs(True, check_verdict(world=HALL, harm=list(harm), caps=caps, value=verdict))
        for value in [*VALUES, (verdict.whats, None), verdict.whats, Verdict(None, None), Verdict((), None),
                      Verdict(verdict.whats, closed_paper(HALL, (0,), harm)), Verdict(verdict.whats[:-1], None),
                      Verdict(verdict.whats + verdict.whats[-1:], None), Verdict(None, verdict.whats), Verdict(list(verdict.whats), None),
                      Meeting(verdict.whats, None, None), Least(verdict.whats, None, None, None), Verdict(None, Lots(HALL, caps).standings),
                      *[Verdict(whats, None) for whats in bent(verdict.whats)]]:
            self.assertIs(False, check_verdict(HALL, harm, caps, value), vars(value) if isinstance(value, Verdict) else value)
        self.assertIs(False, check_verdict(HALL, ("dark", "p"), caps, verdict))
        self.assertIs(False, check_verdict(HALL, harm, (0,), verdict))
        # Another harm ahead of the last what.
        whats = (("hand",), ("hand",), ("step", Y, False))
        self.assertIs(True, check_verdict(HALL, ("dark", "p"), caps, Verdict(whats, None)))
        self.assertIs(False, check_verdict(HALL, ("dark", "p"), caps, Verdict((*whats, ("hand",), ("step", Y, False)), None)))
        never = comes_with(HALL, harm, (0,))
        self.assertIs(True, check_verdict(HALL, harm, (0,), never))
        for value in [Verdict(None, never.paper[1:]), Verdict(None, never.paper + never.paper[-1:]), Verdict((), never.paper),
                      *[Verdict(None, paper) for paper in bent(never.paper) if not isinstance(paper, list)]]:
            self.assertIs(False, check_verdict(HALL, harm, (0,), value), vars(value))


class Lot(unittest.TestCase):
    def all_lots(self, many):
        return [lot for size in range(many + 1) for lot in itertools.combinations(range(many), size)]

    def test_kinds_as_trials_of_all_lots(self):
        several = 0
        for chance, world in worlds(42, 25, 2, 3):
            for harm in all_harms(world):
                comes = {lot: harm in Lots(world, tuple(None if at in lot else 0 for at in range(len(world.kinds))), 20000).harms
                         for lot in self.all_lots(len(world.kinds))}
                told = least_kinds(world, harm)
                self.assertIsInstance(told, Least)
                least = [lot for lot in comes if comes[lot] and not any(comes[two] and set(two) < set(lot) for two in comes)]
                greatest = [lot for lot in comes if not comes[lot] and not any(not comes[two] and set(two) > set(lot) for two in comes)]
                self.assertEqual((tuple(sorted(least)), tuple(sorted(greatest))), (told.lots, told.barred))
                for lot, whats in zip(told.lots, told.whats, strict=True):
                    caps = tuple(None if at in lot else 0 for at in range(len(world.kinds)))
                    self.assertEqual(harm, leads(world, caps, whats)[1])
                for lot, paper in zip(told.barred, told.papers, strict=True):
                    caps = tuple(None if at in lot else 0 for at in range(len(world.kinds)))
                    self.assertTrue(closed_holds(world, caps, paper, harm))
                self.assertTrue(check_least(world, harm, "kinds", told))
                several += len(told.lots) > 1
        self.assertGreater(several, 5)

    def test_three_kinds(self):
        world = World.read("part p\ndoor d out p shut\nkind a\nopen d\nkind b\nopen d\nkind c\ngo d\nrest\nplan\noff p")
        told = least_kinds(world, ("inside", "p"))
        self.assertEqual((((0, 2), (1, 2)), ((0, 1), (2,))), (told.lots, told.barred))
        self.assertTrue(check_least(world, ("inside", "p"), "kinds", told))
        for lots in [((0, 0), (1, 2)), ((1, 2), (2, 0)), ((0, 2), (1, 2), (1, 2)), ((2, 0), (2, 1))]:
            whats = [told.whats[0] if set(lot) == {0, 2} else told.whats[1] for lot in lots]
            self.assertIs(False, check_least(world, ("inside", "p"), "kinds", Least(lots, tuple(whats), told.barred, told.papers)), lots)
        for barred in [((0, 1), (2, 2)), ((1, 0), (2,))]:
            self.assertIs(False, check_least(world, ("inside", "p"), "kinds", Least(told.lots, told.whats, barred, told.papers)), barred)
        # The last one opens for himself: lots go by their kinds, not by how many these are.
        self_made = World.read("part p\ndoor d out p shut\nkind a\nopen d\nkind b\ngo d\nkind c\nopen d\ngo d\nplan\noff p")
        told = least_kinds(self_made, ("inside", "p"))
        self.assertEqual((((0, 1), (2,)), ((0,), (1,))), (told.lots, told.barred))
        self.assertTrue(check_least(self_made, ("inside", "p"), "kinds", told))
        # A lot that holds a lesser one, in its order.
        wider = Least(((0, 1), (0, 1, 2), (2,)), (told.whats[0], told.whats[0], told.whats[1]), told.barred, told.papers)
        self.assertIs(False, check_least(self_made, ("inside", "p"), "kinds", wider))
        nobody = World.read("part p\nplan\noff p")
        self.assertEqual(((), ((),)), (least_kinds(nobody, ("inside", "p")).lots, least_kinds(nobody, ("inside", "p")).barred))

    def test_deeds_as_trials_of_all_lots(self):
        several = 0
        for chance, world in worlds(43, 25, 2, 4):
            many = len(world.plan.deeds)
            for harm in all_harms(world):
                comes = {lot: harm in Lots(world.with_plan([world.plan.deeds[at] for at in lot]), none_of(world), 20000).harms
                         for lot in self.all_lots(many)}
                told = least_deeds(world, harm)
                least = [lot for lot in comes if comes[lot] and not any(comes[two] and set(two) < set(lot) for two in comes)]
                barred = [lot for lot in comes if not any(set(less) <= set(lot) for less in least)]
                self.assertEqual((tuple(sorted(least)), tuple(sorted(barred))), (told.lots, told.barred))
                for lot, whats in zip(told.lots, told.whats, strict=True):
                    fewer = world.with_plan([world.plan.deeds[at] for at in lot])
                    self.assertEqual(harm, leads(fewer, none_of(world), whats)[1])
                for lot, paper in zip(told.barred, told.papers, strict=True):
                    self.assertTrue(closed_holds(world.with_plan([world.plan.deeds[at] for at in lot]), none_of(world), paper, harm))
                self.assertTrue(check_least(world, harm, "deeds", told))
                several += len(told.lots) > 1
        self.assertGreater(several, 5)

    def test_a_deed_more_may_bar_a_harm(self):
        world = World.read("part p\ndoor d out p open\nkind k\ngo d\nplan\nshut d\ndrain p\noff p")
        told = least_deeds(world, ("inside", "p"))
        self.assertEqual(((2,),), told.lots)
        self.assertEqual(((), (0,), (0, 1), (1,)), told.barred)
        five = least_deeds(HALL.with_plan([("off", "p"), ("on", "p"), ("off", "p"), ("on", "p"), ("drain", "p")]), ("dark", "p"))
        self.assertEqual(((0,), (2,)), five.lots)
        self.assertEqual(8, len(five.barred))

    def test_each_part_bent(self):
        inside = ("inside", "p")
        world = HALL.with_plan([("off", "p"), ("on", "p"), ("off", "p")])
        for of, told in (("deeds", least_deeds(world, inside)), ("kinds", least_kinds(WORLD, DARK))):
            at, harm = (world, inside) if of == "deeds" else (WORLD, DARK)
            self.assertIs(True, check_least(world=at, harm=harm, of=of, value=told))
            for value in [*VALUES, Verdict(told.lots, told.whats), (told.lots, told.whats, told.barred, told.papers)]:
                self.assertIs(False, check_least(at, harm, of, value))
            parts = [told.lots, told.whats, told.barred, told.papers]
            for number, part in enumerate(parts):
                for other in [*VALUES, *bent(part)] if number != 3 else [*VALUES, part[:-1], part[::-1], (*part, part[0])]:
                    made = [*parts[:number], other, *parts[number + 1:]]
                    if other != part or str(other) != str(part):
                        self.assertIs(False, check_least(at, harm, of, Least(*made)), (of, number, other))
            # One too many and one too few, each with its paper or whats.
            self.assertIs(False, check_least(at, harm, of, Least(told.lots[1:], told.whats[1:], told.barred, told.papers)))
            self.assertIs(False, check_least(at, harm, of, Least(told.lots, told.whats, told.barred[1:], told.papers[1:])))
            self.assertIs(False, check_least(at, harm, of, Least(told.lots * 2, told.whats * 2, told.barred, told.papers)))
            self.assertIs(False, check_least(at, harm, of, Least(told.lots, told.whats, told.barred * 2, told.papers * 2)))
        told = least_deeds(world, inside)
        self.assertEqual(((0,), (2,)), told.lots)
        self.assertIs(False, check_least(world, inside, "deeds", Least(told.lots[::-1], told.whats[::-1], told.barred, told.papers)))
        self.assertIs(False, check_least(world, inside, "deeds", Least(told.lots, told.whats, told.barred[::-1], told.papers[::-1])))
        more = least_deeds(world, inside)
        whats = (*more.whats, more.whats[0])
        self.assertIs(False, check_least(world, inside, "deeds", Least((*more.lots, (0, 1)), whats, more.barred, more.papers)))
        # A lot with which it does not come beside a lesser one is barred no more for kinds.
        every = least_kinds(World.read("part p\ndoor d out p open\nkind a\nrest\nkind b\nrest\nplan\noff p"), inside)
        self.assertEqual(((), ((0, 1),)), (every.lots, every.barred))


class Meetings(unittest.TestCase):
    def test_meet_and_never(self):
        counts = {}
        for chance, world in worlds(44, 70):
            harms = all_harms(world)
            one, other = chance.sample(harms, 2)
            lots = Lots(world, none_of(world), 20000)
            if len(lots.standings) > 500:
                continue
            both = [standing for standing in lots.standings if {one, other} <= near(world, standing)]
            told = harms_meet(world, one, other)
            self.assertIsInstance(told, Meeting)
            self.assertEqual(not both, told.both is None)
            if both:
                standings, harm = leads(world, none_of(world), told.whats)
                self.assertIsNone(harm)
                self.assertIn(standings[-1], both)
                for what, due in zip(told.both, (one, other), strict=True):
                    self.assertEqual(due, leads(world, none_of(world), (*told.whats, what))[1])
                self.assertIsNone(told.paper)
            else:
                self.assertEqual((None, lots.standings), (told.whats, told.paper))
            self.assertTrue(check_meeting(world, one, other, told))
            self.assertEqual(both != [] and near(world, first_standing(world, none_of(world))) >= {one, other},
                             check_meeting(world, one, other, Meeting((), told.both, None)))
            counts[bool(both)] = counts.get(bool(both), 0) + 1
        self.assertGreater(min(counts.values()), 2)

    def test_by_hand(self):
        # Dark p beside inside q: one has gone on to q, and one more may come into p.
        world = World.read(HOUSE + "kind a\ngo d\ngo e\nplan\noff p\noff q")
        self.assertEqual((("step", Y, False), ("hand",)), harms_meet(world, ("dark", "p"), IN).both)
        lit = World.read(HOUSE + "kind a\ngo d\ngo e\nplan\noff p\non p\noff p")
        met = harms_meet(lit, ("inside", "p"), ("dark", "p"))
        self.assertIsNone(met.both)
        free = World.read(HOUSE + "kind a\ngo d\ngo e\nplan\noff q\noff p")
        met = harms_meet(world=free, one=("dark", "q"), other=("inside", "p"))
        self.assertEqual((("step", (0, 1, 0, None), False), ("hand",)), met.both)

    def test_one_thing_bent(self):
        free = World.read(HOUSE + "kind a\ngo d\ngo e\nplan\noff q\noff p")
        one, other = ("dark", "q"), ("inside", "p")
        told = harms_meet(free, one, other)
        self.assertIs(True, check_meeting(world=free, one=one, other=other, value=told))
        self.assertIs(True, check_meeting(free, other, one, Meeting(told.whats, told.both[::-1], None)))
        standings = Lots(free, (None,)).standings
        for value in [*VALUES, Verdict(told.whats, None), Meeting(told.whats, told.both[::-1], None), Meeting(told.whats, told.both, standings),
                      Meeting(None, None, standings), Meeting(None, told.both, None), Meeting(told.whats, None, None),
                      Meeting(told.whats[:-1], told.both, None), Meeting(list(told.whats), told.both, None),
                      *[Meeting(told.whats, both, None) for both in bent(told.both)],
                      *[Meeting(whats, told.both, None) for whats in bent(told.whats)]]:
            self.assertIs(False, check_meeting(free, one, other, value), vars(value) if isinstance(value, Meeting) else value)
        never = harms_meet(WORLD, DARK, IN)
        for value in [Meeting(None, None, never.paper[::-1]), Meeting(None, None, never.paper[:-1]), Meeting((), None, never.paper),
                      Meeting(None, (), never.paper), Meeting(None, None, list(never.paper)), Meeting(None, None, None),
                      *[Meeting(None, None, never.paper[:3] + (wrong,) + never.paper[4:]) for wrong in bent(never.paper[3])]]:
            self.assertIs(False, check_meeting(WORLD, DARK, IN, value), vars(value))

    def test_only_behind(self):
        counts = {}
        for chance, world in worlds(45, 70):
            one, other = chance.sample(all_harms(world), 2)
            if len(Lots(world, none_of(world), 20000).standings) > 300:
                continue
            met = [first_standing(world, none_of(world))]
            slip = False
            for standing in met:
                harms = near(world, standing)
                if other in harms:
                    continue
                slip = slip or one in harms
                met.extend(dict.fromkeys(behind for _, behind, _ in moves(world, none_of(world), standing) if behind not in met))
            told = only_behind(world, one, other)
            self.assertIsInstance(told, Verdict)
            self.assertEqual(slip, told.paper is None)
            if slip:
                standings, harm = leads(world, none_of(world), told.whats)
                self.assertEqual(one, harm)
                self.assertFalse(any(other in near(world, standing) for standing in standings))
            else:
                self.assertEqual((None, tuple(met)), (told.whats, told.paper))
            self.assertTrue(check_behind(world, one, other, told))
            counts[slip] = counts.get(slip, 0) + 1
        self.assertGreater(min(counts.values()), 5)

    def test_only_behind_by_hand(self):
        world = World.read("part p\npart q\ndoor d out p open\ndoor e p q open\nkind a\ngo d\ngo e\nplan\noff p")
        # Whoever comes into p in the dark has been ahead of an off: nobody may be in then.
        told = only_behind(world=world, harm=("dark", "p"), other=("inside", "p"))
        self.assertIsNone(told.paper)
        behind = World.read("part p\ndoor d out p shut\nkind a\nopen d\ngo d\nplan\noff p")
        told = only_behind(behind, ("inside", "p"), ("dark", "p"))
        self.assertIsNone(told.paper)
        # Who is inside has come by the first place of q's door, from where he may go in: the dark is no way round.
        shut = World.read("part p\npart q\ndoor d out p open\ndoor e p q open\nkind a\ngo d\ngo e\nplan\noff q\noff p")
        told = only_behind(shut, ("inside", "p"), ("dark", "q"))
        self.assertIsNotNone(told.paper)
        self.assertEqual(Lots(shut, (None,)).standings[0], told.paper[0])
        for value in [*VALUES, Verdict(None, told.paper[:-1]), Verdict(None, told.paper[::-1]), Verdict((), told.paper), Verdict(None, None),
                      Verdict((), None), Meeting(None, None, told.paper), Verdict(None, list(told.paper))]:
            self.assertIs(False, check_behind(shut, ("inside", "p"), ("dark", "q"), value))
        self.assertIs(True, check_behind(world=shut, harm=("inside", "p"), other=("dark", "q"), value=told))
        way = (("step", Y, False), ("hand",), ("hand",))
        # It goes by a standing from which dark q is one move away.
        self.assertEqual(("inside", "p"), leads(shut, (None,), way)[1])
        self.assertIs(False, check_behind(shut, ("inside", "p"), ("dark", "q"), Verdict(way, None)))
        slip = only_behind(world, ("dark", "p"), ("inside", "p"))
        for whats in [*bent(slip.whats), slip.whats[:-1], (("step", Y, False), ("step", (0, 1, 0, None), True), *slip.whats), list(slip.whats)]:
            self.assertIs(False, check_behind(world, ("dark", "p"), ("inside", "p"), Verdict(whats, None)), whats)


class Like(unittest.TestCase):
    def test_is_like(self):
        made = [Verdict((1,), None), Verdict(None, (1,)), Verdict((True,), None), Verdict(((1,),), None), Verdict(([1],), None),
                Least((1,), None, None, None), Least((True,), None, None, None), Least(None, (1,), None, None),
                Least(None, None, (1,), None), Least(None, None, None, (1,)), Meeting((1,), None, None), Meeting(None, (1,), None),
                Meeting(None, None, (1,)), Meeting(None, None, (True,)), Meeting(None, None, (0,)), Meeting(None, None, (False,)),
                Meeting(None, None, ())]
        for at, one in enumerate(made):
            for to, other in enumerate(made):
                self.assertIs(at == to, one.is_like(other), (at, to))
            for value in VALUES:
                self.assertIs(False, one.is_like(value))
        self.assertTrue(Verdict(((("step", Y, False), 0),), None).is_like(other=Verdict(((("step", Y, False), 0),), None)))
        self.assertFalse(Verdict(((("step", Y, 0), 0),), None).is_like(Verdict(((("step", Y, False), 0),), None)))
        self.assertEqual(((1,), None), (made[0].whats, made[0].paper))
        whole = Least(lots=(1,), whats=(2,), barred=(3,), papers=(4,))
        self.assertEqual(((1,), (2,), (3,), (4,)), (whole.lots, whole.whats, whole.barred, whole.papers))
        met = Meeting(whats=(1,), both=(2,), paper=(3,))
        self.assertEqual(((1,), (2,), (3,)), (met.whats, met.both, met.paper))


if __name__ == "__main__":
    unittest.main()
