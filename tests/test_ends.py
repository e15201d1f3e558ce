"""[1] to [3], [39]: ways out, watches, drains that are done and that never can be."""

import random
import unittest

from helpers import VALUES, bent, raised, random_world
from lightsout.checker import sheet_holds
from lightsout.ends import drains, for_ever, out_of, outs, shut_in, with_so_many
from lightsout.guests import placed, step
from lightsout.lots import Lots, guest_moves
from lightsout.plans import World

HALL = World.read("part hall\ndoor gate out hall open\ncell pad hall\nkind reader\ngo gate\nsee pad\ngo gate\nplan\nshut gate")
# An m opens the door for others who are within.
HELP = World.read("part p\ndoor d out p open\nkind k\ngo d\ngo d\nkind m\nopen d\nplan\nshut d\ndrain p\nopen d")
ANY = (None,)
Y, A, B = (0, 0, -1, None), (0, 1, 0, None), (0, 2, 0, (0, 0, False))
SHUT = ((False,), (True,), (0,), (0,), (0,))


def watched_by_hand(world, caps, triple):
    """The pairs (what, triple) of [39]."""
    row, places, place = triple
    counted = caps[place[0]] is not None
    others = list(places)
    if counted:
        others.remove(place)
    found = []
    for what, after, lot, harm in guest_moves(world.house, world.kinds, caps, row, tuple(others)):
        if harm is None and (caps[what[1][0]] is not None or not what[2]):
            found.append((what, (after, placed([*lot, place]) if counted else lot, place)))
    done = step(world.house, world.kinds, row, place)
    if done is not None and done[2] is None:
        lot = placed([*others, done[1]]) if counted or done[1] not in others else tuple(others)
        found.append((("watched",), (done[0], lot, done[1])))
    return found


def fewest(first, moves, is_end):
    """How many moves lead to an end at least, None for none; and all that is met ahead of one."""
    level, seen, many = [first], {first}, 0
    while level:
        if any(is_end(state) for state in level):
            return many, seen
        behind = [other for state in level for _, other in moves(state)]
        level = list(dict.fromkeys(state for state in behind if state not in seen))
        seen |= set(level)
        many += 1
    return None, seen


def led(first, moves, way):
    """The states along a way."""
    states = [first]
    for what in way:
        states.append(next(other for told, other in moves(states[-1]) if told == what))
    return states


def some_caps(chance, world):
    return chance.choice([None, None, tuple(chance.choice([None, 0, 1, 2]) for _ in world.kinds)])


class WaysOut(unittest.TestCase):
    def test_by_hand(self):
        first = Lots(HALL, ANY).standings[0]
        self.assertEqual(("InvalidLot", 0), raised(out_of, HALL, first, Y))
        lit = (first[0], (Y, A), 0)
        self.assertEqual((("watched",), ("watched",)), out_of(HALL, lit, A))
        self.assertEqual((("watched",),), out_of(world=HALL, standing=(first[0], (Y, B), 0), place=B, caps=ANY))
        self.assertIsNone(out_of(HALL, (SHUT, (Y, A), 1), A))
        self.assertIsNone(out_of(HALL, (SHUT, (A,), 1), A, (1,)))
        k, m, done = (0, 1, 0, None), (1, 0, -1, None), (1, 1, -1, None)
        shut = ((False,), (True,), (), (), ())
        self.assertEqual((("step", m, False), ("watched",)), out_of(HELP, (shut, ((0, 0, -1, None), k, m), 1), k))
        self.assertEqual((("step", m, True), ("watched",)), out_of(HELP, (shut, (k, m), 1), k, (1, 1)))
        self.assertIsNone(out_of(HELP, (shut, (k, k), 1), k, (2, 0)))
        self.assertIsNone(out_of(HELP, (shut, (k, done), 1), k, (1, 1)))
        self.assertEqual((("step", m, False), ("watched",)), out_of(HELP, (shut, (k, m, done), 1), k, (1, None)))

    def test_as_by_hand(self):
        chance = random.Random(41)
        seen = {}
        for _ in range(80):
            world = random_world(chance, rows=4, deeds=2)
            caps = some_caps(chance, world)
            told = caps or (None,) * len(world.kinds)
            standings = Lots(world, told, 20000).standings
            for standing in chance.sample(standings, min(4, len(standings))):
                for place in set(standing[1]):
                    if place[2] == -1:
                        self.assertEqual(("InvalidLot", 0), raised(out_of, world, standing, place, caps))
                        continue
                    first = (*standing[:2], place)

                    def moves(triple):
                        return watched_by_hand(world, told, triple) if triple[2][2] == place[2] else []

                    many, _ = fewest(first, moves, lambda triple: triple[2][2] != place[2])
                    way = out_of(world, standing, place, caps)
                    self.assertEqual(many, None if way is None else len(way))
                    seen[many] = seen.get(many, 0) + 1
                    if way is not None:
                        wheres = [triple[2][2] == place[2] for triple in led(first, moves, way)]
                        self.assertEqual([True] * many + [False], wheres)
        self.assertGreater(min(seen.get(many, 0) for many in (None, 1, 2)), 10, seen)
        self.assertGreater(max(many for many in seen if many), 2)

    def test_errors(self):
        good = (Lots(HALL, ANY).standings[0][0], (Y, A), 0)
        for caps in [*VALUES, (None, None), [None], (True,)]:
            if caps is not None and caps not in ((1,), (None,)):
                self.assertEqual(("InvalidSize", "caps"), raised(out_of, HALL, None, None, caps), caps)
        for value in [*VALUES, *bent(good)]:
            if value not in [(good[0], (Y,), 0), (good[0], (Y, A), 1)]:
                self.assertEqual(("InvalidLot", -1), raised(out_of, HALL, value, None), value)
        for place in [*VALUES, *bent(A), Y, B, [*A], (0, 3, 0, None)]:
            self.assertEqual(("InvalidLot", 0), raised(out_of, HALL, good, place), place)
        self.assertEqual(("InvalidLot", -1), raised(out_of, HALL, good, A, (1,)))
        self.assertEqual((("watched",), ("watched",)), out_of(HALL, (good[0], (Y, A), 0), A, (2,)))


class Ends(unittest.TestCase):
    def test_example(self):
        whats, place, watch = shut_in(HALL, "hall")
        self.assertEqual((("step", Y, False), ("hand",)), whats)
        self.assertEqual(A, place)
        self.assertEqual({(SHUT, (Y, A), A), (SHUT, (Y, A, B), A), (SHUT, (Y, A, B), B)}, set(watch))
        self.assertIsNone(outs(HALL, "hall"))
        self.assertIsNone(for_ever(world=HALL, part="hall", caps=None))
        standings, ways = drains(HALL, "hall")
        self.assertEqual((Lots(HALL, ANY).standings, ()), (standings, ways))
        self.assertEqual(0, len([what for what in shut_in(HALL, "hall", (1,))[2] if len(what[1]) != 1]))
        self.assertIsNone(shut_in(HALL, "hall", (0,)))
        self.assertEqual(((Lots(HALL, (0,)).standings), ()), outs(HALL, "hall", (0,)))

    def test_who_helps_may_not_have_come(self):
        # Behind shut d any number can be helped; one k alone is never.
        self.assertIsNone(for_ever(HELP, "p"))
        self.assertIsNone(drains(HELP, "p", (1, 0)))
        whats, stay = for_ever(HELP, "p", (1, 0))
        self.assertEqual((("step", (0, 0, -1, None), True), ("hand",)), whats)
        self.assertEqual((((((False,), (True,), (), (), ()), ((0, 1, 0, None),)),)), stay)
        self.assertEqual((None, (whats, stay)), with_so_many(HELP, (1, 0), "p"))
        self.assertEqual((None, None), with_so_many(world=HELP, caps=(0, 2), part="p"))
        # One m has perhaps opened it already, ahead of the deed.
        self.assertEqual((("step", (0, 0, -1, None), True), ("step", (1, 0, -1, None), True), ("hand",)),
                         for_ever(HELP, "p", (1, 1))[0])
        self.assertIsNone(for_ever(HELP, "p", (1, None)))
        self.assertIn((("step", (1, 0, -1, None), False), ("step", (0, 1, 0, None), True)), drains(HELP, "p", (1, None))[1])

    def test_as_by_hand(self):
        chance = random.Random(42)
        seen = {}
        for _ in range(120):
            world = random_world(chance, rows=3, deeds=3)
            caps = some_caps(chance, world)
            told = caps or (None,) * len(world.kinds)
            lots = Lots(world, told, 20000)
            if len(lots.standings) > 300:
                continue
            for number, part in enumerate(world.house.parts):
                seen_in = self.check_shut_in(world, part, number, caps, told, lots)
                seen_ever = self.check_for_ever(world, part, number, caps, told, lots)
                seen["in", seen_in] = seen.get(("in", seen_in), 0) + 1
                seen["ever", seen_ever] = seen.get(("ever", seen_ever), 0) + 1
                if caps is not None and None not in caps:
                    self.assertEqual((shut_in(world, part, caps), for_ever(world, part, caps)),
                                     with_so_many(world, caps, part))
        self.assertGreater(min(seen.get((word, told), 0) for word in ("in", "ever") for told in (True, False)), 5, seen)

    def check_shut_in(self, world, part, number, caps, told, lots):
        def moves(triple):
            return watched_by_hand(world, told, triple) if triple[2][2] == number else []

        asked = [(at, (standing[0], standing[1], place)) for at, standing in enumerate(lots.standings)
                 if standing[2] == len(world.plan.deeds)
                 for place in placed({place for place in standing[1] if place[2] == number})]
        found = [fewest(triple, moves, lambda other: other[2][2] != number) for _, triple in asked]
        bad = [at for at, (many, _) in enumerate(found) if many is None]
        shut, out = shut_in(world, part, caps), outs(world, part, caps)
        if bad:
            at, triple = asked[bad[0]]
            self.assertIsNone(out)
            self.assertEqual((lots.way(at), triple[2]), shut[:2])
            self.assertEqual(found[bad[0]][1], set(shut[2]))
            self.assertTrue(sheet_holds(world, "shut in", (part, told), shut))
            return True
        self.assertIsNone(shut)
        self.assertEqual(lots.standings, out[0])
        self.assertEqual([many for many, _ in found], [len(way) for way in out[1]])
        for (_, triple), way in zip(asked, out[1], strict=True):
            wheres = [other[2][2] == number for other in led(triple, moves, way)]
            self.assertEqual([True] * len(way) + [False], wheres)
        self.assertTrue(sheet_holds(world, "comes out", (part, told), out))
        return False

    def check_for_ever(self, world, part, number, caps, told, lots):
        def is_empty(pair):
            return all(place[2] != number for place in pair[1])

        def moves(pair):
            if is_empty(pair):
                return []
            return [(what, (row, lot)) for what, row, lot, harm in guest_moves(world.house, world.kinds, told, *pair)
                    if harm is None]

        asked = [(at, standing[:2]) for at, standing in enumerate(lots.standings)
                 if world.plan.deeds[standing[2]:][:1] == (("drain", part),)]
        found = [fewest(pair, moves, is_empty) for _, pair in asked]
        bad = [at for at, (many, _) in enumerate(found) if many is None]
        ever, passes = for_ever(world, part, caps), drains(world, part, caps)
        if bad:
            at, pair = asked[bad[0]]
            self.assertIsNone(passes)
            self.assertEqual(lots.way(at), ever[0])
            self.assertEqual(found[bad[0]][1], set(ever[1]))
            self.assertEqual(len(set(ever[1])), len(ever[1]))
            self.assertTrue(sheet_holds(world, "for ever", (part, told), ever))
            return True
        self.assertIsNone(ever)
        self.assertEqual(lots.standings, passes[0])
        self.assertEqual([many for many, _ in found], [len(way) for way in passes[1]])
        for (_, pair), way in zip(asked, passes[1], strict=True):
            self.assertEqual([False] * len(way) + [True], [is_empty(other) for other in led(pair, moves, way)])
        self.assertTrue(sheet_holds(world, "passes", (part, told), passes))
        return False

    def test_errors(self):
        for call in (shut_in, outs, for_ever, drains):
            for part in [*VALUES, "out", "gate", "reader", "x", ["hall"]]:
                self.assertEqual(("NoName", part), raised(call, HALL, part), part)
            for caps in [*VALUES, (None, None), [None], (True,)]:
                if caps is not None and caps not in ((1,), (None,)):
                    self.assertEqual(("InvalidSize", "caps"), raised(call, HALL, 0, caps), caps)
        for part in [*VALUES, "out", "gate"]:
            self.assertEqual(("NoName", part), raised(with_so_many, HALL, (1,), part), part)
        for caps in [*VALUES, (None,), None, [1], (True,), (1, 1)]:
            if caps != (1,):
                self.assertEqual(("InvalidSize", "caps"), raised(with_so_many, HALL, caps, 0), caps)
        two = World.read(HALL.text().replace("kind reader", "kind a\nrest\nkind reader"))
        self.assertEqual(("InvalidSize", "caps"), raised(with_so_many, two, (1, None), "hall"))

    def test_too_many(self):
        kinds = "".join(f"kind {name}\ngo d\nsee c\nset c 1\nset e 2\ngo d\n" for name in "ab")
        world = World.read(f"part p\ndoor d out p open\ncell c p\ncell e p\n{kinds}plan\noff p")
        for call in (shut_in, outs, for_ever, drains):
            self.assertEqual(("InvalidSize", "standings"), raised(call, world, "p"))
            self.assertEqual(("NoName", "x"), raised(call, world, "x"))


if __name__ == "__main__":
    unittest.main()
