"""[1] to [3], [72], [75] to [78]: what bells, lamps and faces tell for sure."""

import itertools
import random
import unittest

from helpers import VALUES, bent, raised, random_world
from lightsout.bells import log_told
from lightsout.errors import InvalidSize
from lightsout.guests import first_place, placed, step
from lightsout.house import first_row
from lightsout.plans import World, deed
from lightsout.surely import (bad_story, clash_at, fits, good_entries, least_sensors, stretch, sure_for_ever, sure_holds, surely,
                              undecided)
from slow import in_order, large_world

HALL = World.read("part hall\ndoor gate out hall open\nkind k\ngo gate\ngo gate\nplan\noff hall")
GATE, LAMP = ("bell", "gate"), ("lamp", "hall")
NOBODY = ("nobody", "hall")
TOLD = World.read("part p\npart q\ndoor d out p open\ndoor e p q shut\ncell c p\ncell m q kept\nkind a\ngo d\nset c 1\ntell c\ngo d\n"
                  "plan\ndrain p\noff p\non p")
Y, IN, OUT = (0, 0, -1, None), (0, 1, 0, None), (0, 2, -1, None)


def sensors_of(world):
    house = world.house
    return [*[("bell", door[0]) for door in house.doors], *[("lamp", part) for part in house.parts],
            *[("face", cell[0]) for cell in house.cells]]


def sayings_of(world):
    house = world.house
    told = [("nobody", part) for part in house.parts] + [("open", door[0]) for door in house.doors]
    for cell in house.cells:
        told.extend([("told", cell[0]), *[("value", cell[0], value) for value in range(3)]])
    return told


def first(world):
    return first_row(world.house), tuple(first_place(at) for at in range(len(world.kinds))), 0, ()


def steps(world, sensors, standing):
    """The watched standings behind the steps of guests without a harm."""
    row, places, hand, lit = standing
    bells = [world.house.number_of_door(name) for word, name in sensors if word == "bell"]
    for place in places:
        told = step(world.house, world.kinds, row, place)
        if told is None or told[2] is not None:
            continue
        own, more = world.kinds[place[0]].rows[place[1]], set(lit)
        if own[0] == "go" and world.house.number_of_door(own[1]) in bells:
            more.add(world.house.number_of_door(own[1]))
        for left in {frozenset(places), frozenset(places) - ({place} - {first_place(place[0])})}:
            yield told[0], placed(left | {told[1]}), hand, tuple(sorted(more))


def stretched(world, sensors, starts):
    met = dict.fromkeys(starts)
    left = list(met)
    while left:
        for standing in steps(world, sensors, left.pop()):
            if standing not in met:
                met[standing] = None
                left.append(standing)
    return in_order(met)


def entry(world, sensors, standing):
    row, places, _, lit = standing
    house = world.house
    told = {"bell": lambda name: house.number_of_door(name) in lit, "face": lambda name: row[2][house.number_of_cell(name)],
            "lamp": lambda name: house.number_of_part(name) in [place[2] for place in places]}
    return tuple(told[word](name) for word, name in sensors)


def behind(world, standings):
    """What the next deed, without a harm, makes of watched standings."""
    found = {}
    for row, places, hand, _ in standings:
        told = deed(world.house, row, places, world.plan.deeds[hand])
        if told is not None and told[2] is None:
            found[told[0], placed(set(told[1])), hand + 1, ()] = None
    return list(found)


def levels(world, sensors, log):
    """For each entry all that can be ahead of the look, and what has the entry."""
    starts, found = [first(world)], []
    for at, told in enumerate(log):
        whole = stretched(world, sensors, starts)
        fitting = [one for one in whole if told is None or entry(world, sensors, one) == told]
        found.append((whole, fitting))
        starts = behind(world, fitting) if at + 1 < len(log) else []
    return found


def says(world, saying, standing):
    row, places = standing[:2]
    if saying[0] == "nobody":
        return world.house.number_of_part(saying[1]) not in [place[2] for place in places]
    if saying[0] == "open":
        return row[0][world.house.number_of_door(saying[1])]
    cell = world.house.number_of_cell(saying[1])
    return row[2][cell] == saying[2] if saying[0] == "value" else row[4][cell] in (1, 2)


def agrees(log, told):
    return len(log) == len(told) and all(one is None or one == other for one, other in zip(log, told))


def cases(seed, many, rows=3, deeds=3):
    """Worlds with sensors and a log, mostly that of some story."""
    chance = random.Random(seed)
    while many:
        world = random_world(chance, rows=rows, deeds=deeds)
        whole = sensors_of(world)
        sensors = chance.sample(whole, chance.randrange(min(4, len(whole)) + 1))
        log, starts = [], [first(world)]
        for at in range(chance.randrange(len(world.plan.deeds) + 1) + 1):
            standings = stretched(world, sensors, starts)
            told = entry(world, sensors, chance.choice(standings or [first(world)]))
            if chance.random() < 0.25:
                told = chance.choice([None, tuple(chance.randrange(3) if word == "face" else chance.random() < 0.5 for word, _ in sensors)])
            log.append(told)
            if len(standings) > 250:
                break
            if at < len(world.plan.deeds):
                starts = behind(world, [one for one in standings if told is None or entry(world, sensors, one) == told])
        else:
            many -= 1
            yield chance, world, sensors, log


class ByHand(unittest.TestCase):
    def test_hall(self):
        row = first_row(HALL.house)
        self.assertEqual(((row, (Y,), 0),), fits(HALL, [GATE], [(False,)]))
        paper = ((row, (Y,), 0, ()), (row, (Y, IN), 0, (0,)), (row, (Y, IN, OUT), 0, (0,)), (row, (Y, OUT), 0, (0,)))
        self.assertEqual((True, (paper,)), surely(HALL, [GATE], [(False,)], NOBODY))
        self.assertEqual(((row, (Y, IN), 0), (row, (Y, IN, OUT), 0), (row, (Y, OUT), 0)), fits(HALL, [GATE], [(True,)]))
        self.assertEqual(((((False,),), ((True,),)),), good_entries(HALL, [GATE]))
        least, greatest = least_sensors(HALL, [GATE, LAMP], NOBODY, 0)
        self.assertEqual((((LAMP,),), [((GATE,))]), (least, [triple[0] for triple in greatest]))
        one, other = undecided(HALL, [GATE], NOBODY, 0)
        self.assertEqual((((True,),), ((True,),)), (log_told(HALL, [GATE], one), log_told(HALL, [GATE], other)))
        self.assertIsNone(undecided(HALL, [LAMP], NOBODY, 0))
        self.assertIsNone(undecided(HALL, [GATE], NOBODY, 1))

    def test_a_bell_lit_by_a_step_that_changes_nothing_else(self):
        row = first_row(HALL.house)
        behind_off = ((True,), (False,), (), (), ())
        # All are out again when the light goes off: then nobody can go in without a harm.
        told = stretch(world=HALL, sensors=[GATE], starts=[(row, (Y, IN), 0, ())])
        self.assertIn((row, (Y, IN), 0, (0,)), told)
        self.assertEqual(((behind_off, (Y, OUT), 1, ()),), stretch(HALL, [GATE], ((behind_off, (Y, OUT), 1, ()),)))
        self.assertEqual((), stretch(HALL, [GATE], ()))
        both = stretch(HALL, (), [(row, (Y,), 0, ()), (behind_off, (Y,), 1, ())])
        self.assertEqual([0] * 4 + [1], sorted(standing[2] for standing in both))

    def test_what_is_told(self):
        face = [("face", "c"), ("lamp", "p")]
        # Once 1 has been told, it stands until the off takes it.
        row = first_row(TOLD.house)
        told = (row[0], row[1], (1, 0), row[3], (1, 0))
        start = (told, ((0, 0, -1, None),), 0, ())
        self.assertEqual((start,), tuple(one for one in stretch(TOLD, (), [start]) if one[1] == start[1]))
        self.assertTrue(surely(TOLD, face, [(0, False)], ("told", "c"), False)[0])
        # Who is out again has told it.
        self.assertTrue(surely(TOLD, face, [(1, False)], ("told", "c"))[0])
        self.assertFalse(surely(TOLD, face, [(1, True)], ("told", "c"))[0])
        self.assertFalse(surely(TOLD, face, [(1, True)], ("told", "c"), False)[0])
        gone = [None, None, None, (0, False)]
        self.assertTrue(surely(TOLD, face, gone, ("told", "c"), False)[0])
        both = World.read(TOLD.text().replace("set c 1", "set c 2"))
        self.assertFalse(surely(both, face, [(2, False)], ("told", "c"), False)[0])
        self.assertTrue(surely(both, face, [(2, False)], ("told", "c"))[0])
        # 2 was told, and the off has taken it: nothing stands.
        self.assertTrue(surely(both, face, gone, ("told", "c"), False)[0])

    def test_several_bad_entries_in_order(self):
        world = World.read("part p\ndoor d out p open\ncell c p\nkind k\ngo d\nset c 2\nset c 1\nset c 0\nplan\noff p")
        self.assertEqual(((((0,),), ((0,), (1,), (2,))),)[0][1:], (good_entries(world, [("face", "c")])[0][1],))
        self.assertEqual((((False, 0),), ((True, 0), (True, 1), (True, 2))), good_entries(world, [("lamp", "p"), ("face", "c")])[0])
        calm = world.with_plan([("on", "p")])
        self.assertEqual((((0,), (1,), (2,)), ()), good_entries(calm, [("face", "c")])[0])

    def test_told_late(self):
        # Of the last look nothing has been told: it fits whatever can be.
        self.assertEqual(4, len(fits(HALL, [GATE], [None])))
        self.assertEqual(2, len(fits(HALL, [LAMP], [None, (False,)])))
        self.assertIsNone(clash_at(HALL, [GATE], [None, None]))
        self.assertEqual(1, clash_at(HALL, [GATE], [None, (True,)]))
        self.assertEqual(1, clash_at(HALL, [LAMP], [(True,), (False,)]))
        self.assertEqual((), fits(HALL, [LAMP], [(True,), (False,)]))
        self.assertEqual((True, ()), surely(HALL, [LAMP], [(True,), None], NOBODY)[:1] + (surely(HALL, [LAMP], [(True,), None], NOBODY)[1][1],))


class Logs(unittest.TestCase):
    def test_as_plain_searches(self):
        counts = {}
        for chance, world, sensors, log in cases(75, 60):
            found = levels(world, sensors, log)
            given = chance.choice([sensors, tuple(sensors)])
            self.assertEqual(in_order([one[:3] for one in found[-1][1]]), fits(world, given, chance.choice([log, tuple(log)])))
            clashes = [at for at, (_, fitting) in enumerate(found) if not fitting]
            self.assertEqual(clashes[0] if clashes else None, clash_at(world, given, log))
            counts["clash"] = counts.get("clash", 0) + bool(clashes)
            ever = stretched(world, (), [(*one[:3], ()) for one in found[-1][1]])
            for saying in sayings_of(world):
                for is_so in (True, False):
                    self.check_saying(world, sensors, log, saying, is_so, found, counts)
                    self.check_for_ever(world, sensors, log, saying, is_so, ever)
        self.assertGreater(min(counts.values()), 5)

    def check_saying(self, world, sensors, log, saying, is_so, found, counts):
        is_sure, told = surely(world, sensors, log, saying, is_so)
        self.assertIs(all(says(world, saying, one) == is_so for one in found[-1][1]), is_sure)
        if is_so:
            self.assertEqual((is_sure, told), surely(world=world, sensors=sensors, log=log, saying=saying))
        if is_sure:
            self.assertEqual(tuple(whole for whole, _ in found), told)
            self.assertIs(True, sure_holds(world, sensors, log, saying, is_so, told))
        else:
            self.assertTrue(agrees(log, log_told(world, sensors, told)))
            self.assertFalse(sure_holds(world, sensors, log, saying, is_so, tuple(whole for whole, _ in found)))
        counts[is_so, is_sure] = counts.get((is_so, is_sure), 0) + 1

    def check_for_ever(self, world, sensors, log, saying, is_so, ever):
        is_sure, told = sure_for_ever(world, sensors, log, saying, is_so)
        self.assertIs(all(says(world, saying, one) == is_so for one in ever), is_sure)
        if is_sure:
            self.assertEqual(tuple(one[:3] for one in ever), told)
        else:
            log_told(world, sensors, told)
            self.assertTrue(any(agrees(log, log_told(world, sensors, told[:at])) and ("hand",) not in told[at:]
                                for at in range(len(told) + 1)))
        if is_so:
            self.assertEqual((is_sure, told), sure_for_ever(world=world, sensors=sensors, log=log, saying=saying))

    def test_stretches(self):
        for chance, world, sensors, log in cases(76, 30):
            found = levels(world, sensors, log)
            starts = chance.sample(list(found[0][0]), min(2, len(found[0][0])))
            self.assertEqual(stretched(world, sensors, starts), stretch(world, sensors, starts))

    def test_papers_with_a_standing_less_or_more(self):
        counts = {}
        for chance, world, sensors, log in cases(77, 60, 3, 2):
            saying, is_so = chance.choice(sayings_of(world)), chance.random() < 0.5
            is_sure, paper = surely(world, sensors, log, saying, is_so)
            if not is_sure or sum(len(part) for part in paper) > 60:
                continue
            for at, part in enumerate(paper):
                self.assertTrue(sure_holds(world, sensors, log, saying, is_so, (*paper[:at], part[::-1], *paper[at + 1:])))
                self.assertTrue(sure_holds(world, sensors, log, saying, is_so, (*paper[:at], part + part[:1], *paper[at + 1:])))
                for number in range(len(part)):
                    value = (*paper[:at], part[:number] + part[number + 1:], *paper[at + 1:])
                    self.assertIs(False, sure_holds(world, sensors, log, saying, is_so, value))
                # More, closed once more: it holds if the saying holds of what is new, too.
                row, places, hand, _ = chance.choice(part or (first(world),))
                lit = tuple(sorted(world.house.number_of_door(name) for word, name in sensors if word == "bell"))
                more = list(paper)
                starts = [(row, places, at, lit)]
                for later in range(at, len(log)):
                    more[later] = tuple(dict.fromkeys([*more[later], *stretched(world, sensors, starts)]))
                    starts = behind(world, [one for one in more[later] if log[later] is None or entry(world, sensors, one) == log[later]]
                                    ) if later + 1 < len(log) else []
                told = [one for one in more[-1] if log[-1] is None or entry(world, sensors, one) == log[-1]]
                holds = all(says(world, saying, one) == is_so for one in told)
                self.assertIs(holds, sure_holds(world, sensors, log, saying, is_so, tuple(more)))
                counts[holds] = counts.get(holds, 0) + 1
        self.assertGreater(counts[True], 20)
        self.assertGreater(counts.get(False, 0), 0)

    def test_any_value_as_a_paper(self):
        paper = surely(HALL, [GATE], [(False,)], NOBODY)[1]
        for value in [*VALUES, *bent(paper), [*paper], (*paper, ()), ((),), paper[0]]:
            self.assertIs(False, sure_holds(HALL, [GATE], [(False,)], NOBODY, True, value), value)
        row = first_row(HALL.house)
        lone = (row, (Y,), 0, (0,))
        self.assertIs(True, sure_holds(HALL, [GATE], [(False,)], NOBODY, True, ((*paper[0], lone),)))
        for standing in [one for one in bent(paper[0][1]) if one != lone]:
            self.assertIs(False, sure_holds(HALL, [GATE], [(False,)], NOBODY, True, ((*paper[0], standing),)), standing)
        for wrong in [(row, (Y,), 1, ()), (row, (Y,), 0, (1,)), (row, (Y,), 0, (0, 0)), (row, (IN,), 0, (0,)), (row, (Y, Y), 0, ())]:
            self.assertIs(False, sure_holds(HALL, [GATE], [(False,)], NOBODY, True, ((*paper[0], wrong),)), wrong)
        # Bells that are no sensors, and doors in another order, even where all is closed.
        two = [("bell", "d"), ("bell", "e")]
        for sensors, wrong in [([("bell", "d")], (1,)), ([("bell", "d")], (0, 1)), (two, (1, 0)), (two, (0, 0)), (two, (0, 2))]:
            lit = surely(TOLD, sensors, [None], ("open", "d"))[1][0]
            more = dict.fromkeys([*lit, *stretch(TOLD, two, [(*first(TOLD)[:3], (0, 1))]), *stretch(TOLD, two, [(*first(TOLD)[:3], (1,))])])
            due = tuple((*one[:3], wrong if one[3] == (0, 1) else one[3]) for one in more)
            if sensors == two:
                self.assertTrue(sure_holds(TOLD, sensors, [None], ("open", "d"), True, (tuple(more),)))
            self.assertIs(False, sure_holds(TOLD, sensors, [None], ("open", "d"), True, (due,)), wrong)
        # Of a lamp no bell is lit.
        self.assertIs(False, sure_holds(HALL, [LAMP], [(False,)], NOBODY, True, paper))
        self.assertIs(True, sure_holds(world=HALL, sensors=[GATE], log=[(False,)], saying=NOBODY, is_so=True, value=paper))
        self.assertIs(False, sure_holds(HALL, [GATE], [(False,)], NOBODY, False, paper))
        self.assertIs(False, sure_holds(HALL, [GATE], [(True,)], NOBODY, True, paper))


class Rules(unittest.TestCase):
    def test_good_and_bad_entries(self):
        bad_ones = 0
        for chance, world, sensors, _ in cases(78, 90):
            starts, due = [first(world)], []
            for word, name in world.plan.deeds:
                found = {}
                for one in stretched(world, sensors, starts):
                    found.setdefault(entry(world, sensors, one), []).append(one)
                bad = [told for told in found if word in ("off", "drain")
                       and not all(says(world, ("nobody", name), one) for one in found[told])]
                good = [told for told in found if told not in bad]
                due.append((tuple(sorted(good)), tuple(sorted(bad))))
                starts = behind(world, [one for told in good for one in found[told]])
            self.assertEqual(tuple(due), good_entries(world, chance.choice([sensors, tuple(sensors)])))
            for at, (good, bad) in enumerate(due):
                for told in [*good, None]:
                    self.assertIsNone(bad_story(world, sensors, at, told))
                for told in bad:
                    story = bad_story(world, sensors, at, told)
                    log = log_told(world, sensors, story)
                    self.assertEqual((at + 1, told), (len(log), log[-1]))
                    self.assertTrue(all(one in due[number][0] for number, one in enumerate(log[:-1])))
                    # The lamp tells that somebody is in the part.
                    self.assertEqual((True,), log_told(world, [("lamp", world.plan.deeds[at][1])], story)[-1])
                    bad_ones += 1
        self.assertGreater(bad_ones, 30)

    def test_by_hand(self):
        world = HALL.with_plan([("shut", "gate"), ("drain", "hall"), ("off", "hall")])
        self.assertEqual(((((False,), (True,)), ()), (((False,),), ((True,),)), (((False,),), ())), good_entries(world=world, sensors=[LAMP]))
        # With no sensor at all nothing is good where somebody may be in.
        self.assertEqual((((), ((),)),), good_entries(HALL, ()))
        self.assertEqual((("step", Y, False),), bad_story(world=HALL, sensors=(), at=0, entry=()))
        self.assertIsNone(bad_story(HALL, [GATE], 0, (False,)))
        for value in [*VALUES, (1,), [True], (True, True), (None,)]:
            if value != [True]:
                self.assertIsNone(bad_story(HALL, [GATE], 0, value), value)
        # An off of a part that is off already: somebody within makes it bad all the same.
        twice = World.read("part p\npart q\ndoor d out q open\nkind k\ngo d\nplan\non p\noff q")
        self.assertEqual((((True,),),), (good_entries(twice, [("lamp", "q")])[1][1:]))

    def test_undecided_as_plain_searches(self):
        counts = {}
        for chance, world, sensors, _ in cases(79, 60):
            saying = chance.choice(sayings_of(world))
            for many in range(len(world.plan.deeds) + 1):
                try:
                    pair = undecided(world, sensors, saying, many)
                except InvalidSize:
                    continue
                self.assertEqual(self.is_undecided(world, sensors, saying, many), pair is not None)
                counts[pair is None] = counts.get(pair is None, 0) + 1
                if pair is not None:
                    logs = [log_told(world, sensors, story) for story in pair]
                    self.assertEqual((logs[0], many + 1), (logs[1], len(logs[0])))
                    # The sayings are asked by sensors of their own, where there are some.
                    if saying[0] == "nobody":
                        self.assertEqual([(False,), (True,)], [log_told(world, [("lamp", saying[1])], story)[-1] for story in pair])
                    if saying[0] == "value":
                        told = [log_told(world, [("face", saying[1])], story)[-1][0] == saying[2] for story in pair]
                        self.assertEqual([True, False], told)
        self.assertGreater(min(counts.values()), 10)

    def is_undecided(self, world, sensors, saying, many):
        lots = [[first(world)]]
        for _ in range(many):
            found = {}
            for starts in lots:
                told = {}
                for one in stretched(world, sensors, starts):
                    told.setdefault(entry(world, sensors, one), []).append(one)
                for standings in told.values():
                    found[frozenset(behind(world, standings))] = None
            lots = [list(lot) for lot in found]
        for starts in lots:
            told = {}
            for one in stretched(world, sensors, starts):
                told.setdefault(entry(world, sensors, one), set()).add(says(world, saying, one))
            if any(len(both) == 2 for both in told.values()):
                return True
        return False

    def test_lots_of_sensors_as_trials_of_all(self):
        several = 0
        for chance, world, _, _ in cases(80, 120):
            whole = sensors_of(world)
            choice = chance.sample(whole, min(len(whole), chance.randrange(5)))
            saying, many = chance.choice(sayings_of(world)), chance.randrange(len(world.plan.deeds) + 1)
            lots = [lot for size in range(len(choice) + 1) for lot in itertools.combinations(choice, size)]
            try:
                tells = {lot: undecided(world, lot, saying, many) is None for lot in lots}
            except InvalidSize:
                continue
            least, greatest = least_sensors(world, chance.choice([choice, tuple(choice)]), saying, many)
            self.assertEqual(tuple(lot for lot in lots if tells[lot] and not any(tells[two] and set(two) < set(lot) for two in lots)), least)
            due = [lot for lot in lots if not tells[lot] and not any(not tells[two] and set(two) > set(lot) for two in lots)]
            self.assertEqual(due, [triple[0] for triple in greatest])
            for lot, story, other in greatest:
                self.assertEqual(log_told(world, lot, story), log_told(world, lot, other))
            several += len(least) * len(greatest) > 0
        self.assertGreater(several, 3)


class Errors(unittest.TestCase):
    CALLS = [lambda sensors, log, saying: surely(TOLD, sensors, log, saying), lambda sensors, log, saying: sure_for_ever(TOLD, sensors, log, saying),
             lambda sensors, log, saying: sure_holds(TOLD, sensors, log, saying, True, None)]

    def test_sensors_first(self):
        calls = [lambda told, call=call: call(told, None, None) for call in self.CALLS]
        calls += [lambda told: stretch(TOLD, told, ()), lambda told: fits(TOLD, told, None), lambda told: clash_at(TOLD, told, None),
                  lambda told: good_entries(TOLD, told), lambda told: bad_story(TOLD, told, None, None),
                  lambda told: undecided(TOLD, told, None, None), lambda told: least_sensors(TOLD, told, None, None)]
        for call in calls:
            for value in VALUES:
                if not isinstance(value, (list, tuple)):
                    self.assertEqual(("InvalidSensor", -1), raised(call, value), value)
                self.assertEqual(("InvalidSensor", 1), raised(call, [("lamp", "p"), value]), value)
            for sensors, at in [([("bell", "d"), ("face", "c"), ("bell", "d")], 2), ([("lamp", "d")], 0), ([("lamp", "out")], 0),
                                ([("face", "p"), 3], 0), ([["bell", "d"]], 0), ([("bell",)], 0), ([("Bell", "d")], 0)]:
                self.assertEqual(("InvalidSensor", at), raised(call, sensors), sensors)

    def test_logs(self):
        sensors = [("bell", "d"), ("lamp", "p"), ("face", "c")]
        good = (True, False, 2)
        calls = [lambda log, call=call: call(sensors, log, None) for call in self.CALLS]
        calls += [lambda log: fits(TOLD, sensors, log), lambda log: clash_at(TOLD, sensors, log)]
        for call in calls:
            for value in VALUES:
                if not isinstance(value, (list, tuple)) or not value:
                    self.assertEqual(("InvalidLog", -1), raised(call, value), value)
                if value is not None:
                    self.assertEqual(("InvalidLog", 2), raised(call, [good, None, value]), value)
            for wrong in [(True, False), (True, False, 3), (True, False, True), (True, 0, 2), (1, False, 2), (True, False, -1), [*good],
                          (True, None, 2), (True, False, None), (*good, 1)]:
                self.assertEqual(("InvalidLog", 1), raised(call, (None, wrong, None)), wrong)
            self.assertEqual(("InvalidLog", -1), raised(call, [None] * 5))
            self.assertEqual(("InvalidLog", -1), raised(call, []))
        self.assertEqual((), fits(TOLD, (), [()] * 4)[:0])

    def test_sayings(self):
        calls = [lambda saying, call=call: call([], [()], saying) for call in self.CALLS]
        calls += [lambda saying: undecided(TOLD, [], saying, None), lambda saying: least_sensors(TOLD, [], saying, None)]
        for call in calls:
            for value in [*VALUES, ("nobody",), ("nobody", "p", 0), ("value", "c"), ("value", "c", 3), ("value", "c", True), ("value", "c", -1),
                          ("open", 0), ("told", None), ("shut", "d"), ("Nobody", "p"), ("value", 0, 0), ("told", "c", 1), ["nobody", "p"]]:
                self.assertEqual(("InvalidSize", "saying"), raised(call, value), value)
            for saying in [("nobody", "out"), ("nobody", "d"), ("value", "p", 0), ("open", "c"), ("told", "e"), ("open", ""), ("nobody", "")]:
                self.assertEqual(("NoName", saying[1]), raised(call, saying), saying)
        self.assertEqual(("InvalidSize", "saying"), raised(undecided, TOLD, [], ("value", "z", 3), 0))

    def test_numbers(self):
        for value in VALUES:
            if isinstance(value, bool) or value not in (0, 1, 2):
                self.assertEqual(("Refused", value), raised(bad_story, TOLD, [], value, None), value)
                self.assertEqual(("Refused", value), raised(undecided, TOLD, [], ("open", "d"), value), value)
                self.assertEqual(("Refused", value), raised(least_sensors, TOLD, sensors_of(TOLD), ("open", "d"), value), value)
        self.assertEqual(("Refused", 3), raised(bad_story, TOLD, [], 3, ()))
        self.assertEqual(("Refused", 4), raised(undecided, TOLD, [], ("open", "d"), 4))
        self.assertIsNone(raised(undecided, TOLD, [], ("open", "d"), 3))
        six = sensors_of(TOLD)
        self.assertEqual(6, len(six))
        self.assertEqual(("InvalidSize", "choice"), raised(least_sensors, TOLD, six, ("open", "d"), 0))
        self.assertEqual(("InvalidSensor", 5), raised(least_sensors, TOLD, [*six[:5], 0], None, None))
        self.assertEqual((((),), ()), least_sensors(world=TOLD, choice=six[:5], saying=("open", "d"), many=0))

    def test_too_many_standings(self):
        texts = "".join(f"kind {name}\ngo d\nsee c\nset c 1\nset e 2\ngo d\n" for name in "ab")
        world = World.read(f"part p\ndoor d out p open\ncell c p\ncell e p\n{texts}plan\ndrain p\noff p")
        start = first(world)
        for call in [lambda: stretch(world, [], [start]), lambda: fits(world, [], [()]), lambda: clash_at(world, [], [()]),
                     lambda: surely(world, [], [()], ("open", "d")), lambda: sure_for_ever(world, [], [()], ("open", "d")),
                     lambda: good_entries(world, []), lambda: bad_story(world, [], 0, ()), lambda: undecided(world, [], ("open", "d"), 0),
                     lambda: least_sensors(world, [], ("open", "d"), 0)]:
            self.assertEqual(("InvalidSize", "standings"), raised(call))
        # Just as many as are let, of all looks together; and more.
        self.assertIsNone(raised(undecided, large_world(5), [], ("nobody", "p"), 4))
        self.assertEqual(("InvalidSize", "standings"), raised(undecided, large_world(5), [], ("nobody", "p"), 5))
        self.assertEqual(("InvalidSize", "standings"), raised(undecided, large_world(4), [("face", "c")], ("nobody", "p"), 4))
        self.assertIsNone(raised(fits, large_world(5), [], [()] * 6))
        # What is handed in is only looked at.
        self.assertIs(False, sure_holds(world, [], [()], ("open", "d"), True, ((start,),)))


if __name__ == "__main__":
    unittest.main()
