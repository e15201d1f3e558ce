"""[1] to [3], [10], [11], [34] to [36]: standings by lots, their moves, and the harms that are met."""

import random
import unittest

from helpers import VALUES, bent, raised, random_world
from lightsout.guests import first_place, place_key, placed, step
from lightsout.house import first_row
from lightsout.lots import Lots, fewer, first_standing, guest_moves, moves
from lightsout.plans import World, deed

HALL = World.read("part hall\ndoor gate out hall open\nkind reader\ngo gate\nplan\noff hall")
Y, IN = (0, 0, -1, None), (0, 1, 0, None)
LIT = ((True,), (True,), (), (), ())
DARK = ((True,), (False,), (), (), ())
ANY = (None,)
HARMS = ("inside", "dark", "stale", "lost")


def lot_of(caps, places):
    """The places in order, those of kinds without a count once."""
    return placed([place for place in places if caps[place[0]] is not None]
                  + list({place for place in places if caps[place[0]] is None}))


def by_hand(world, caps, standing):
    """All moves of [34], from what `step` and `deed` say."""
    row, places, hand = standing
    found = []
    for place in sorted(set(places), key=place_key):
        told = step(world.house, world.kinds, row, place)
        if told is None:
            continue
        after, to, harm = told
        counted = caps[place[0]] is not None
        if harm:
            found.append((("step", place, counted), standing, harm))
            continue
        left = list(places)
        left.remove(place)
        choices = [(True, [*left, to])] if counted else [(False, [*places, to]), (True, [*left, to])]
        for is_left, lot in choices:
            if is_left and not counted and place == first_place(place[0]):
                continue
            behind = (after, lot_of(caps, lot), hand)
            if behind != standing:
                found.append((("step", place, is_left), behind, None))
    if hand < len(world.plan.deeds):
        told = deed(world.house, row, places, world.plan.deeds[hand])
        if told and told[2]:
            found.append((("hand",), standing, told[2]))
        elif told:
            found.append((("hand",), (told[0], lot_of(caps, told[1]), hand + 1), None))
    return tuple(found)


def is_settled(world, hand):
    return not any(word in ("drain", "off") for word, _ in world.plan.deeds[hand:])


def fewer_by_hand(world, caps, standing):
    told = by_hand(world, caps, standing)
    if not is_settled(world, standing[2]):
        return told
    return tuple(move for move in told if move[0] == ("hand",) or not move[0][2] or caps[move[0][1][0]] is not None)


def is_under(caps, one, other):
    if (one[0], one[2]) != (other[0], other[2]):
        return False
    counted = [[place for place in some[1] if caps[place[0]] is not None] for some in (one, other)]
    return counted[0] == counted[1] and set(one[1]) <= set(other[1])


def walk_by_hand(world, caps, is_short):
    """The standings, and each harm with the whats of the first shortest story."""
    first = first_standing(world, caps)
    met, ways, harms = [first], [()], {}
    at = 0
    while at < len(met):
        told = fewer_by_hand(world, caps, met[at]) if is_short else by_hand(world, caps, met[at])
        for what, behind, harm in told:
            way = (*ways[at], what)
            if harm:
                harms.setdefault(harm, way)
            elif behind not in met:
                if is_short and is_settled(world, behind[2]) and any(is_under(caps, behind, some) for some in met):
                    continue
                met.append(behind)
                ways.append(way)
        at += 1
    return met, ways, harms


def some_caps(chance, world):
    return tuple(chance.choice([None, None, 0, 1, 2]) for _ in world.kinds)


class Moves(unittest.TestCase):
    def test_first_standing(self):
        two = World.read(HALL.text().replace("kind reader", "kind a\nrest\nkind b\nrest\nkind reader"))
        self.assertEqual((first_row(two.house), ((0, 0, -1, None), (0, 0, -1, None), (2, 0, -1, None)), 0),
                         first_standing(two, (2, 0, None)))
        self.assertEqual((LIT, (Y,), 0), first_standing(world=HALL, caps=(None,)))
        self.assertEqual((LIT, (Y,), 0), first_standing(HALL, (1,)))
        self.assertEqual((LIT, (), 0), first_standing(HALL, (0,)))

    def test_by_hand(self):
        first = (LIT, (Y,), 0)
        self.assertEqual(((("step", Y, False), (LIT, (Y, IN), 0), None), (("hand",), (DARK, (Y,), 1), None)),
                         moves(HALL, ANY, first))
        self.assertEqual(((("step", Y, True), (LIT, (IN,), 0), None), (("hand",), (DARK, (Y,), 1), None)),
                         moves(HALL, (1,), first))
        self.assertEqual(((("hand",), (LIT, (Y, IN), 0), ("inside", "hall")),), moves(HALL, ANY, (LIT, (Y, IN), 0)))
        self.assertEqual(((("step", Y, False), (DARK, (Y,), 1), ("dark", "hall")),), moves(HALL, ANY, (DARK, (Y,), 1)))
        self.assertEqual(((("step", Y, True), (DARK, (Y,), 1), ("dark", "hall")),), moves(HALL, (1,), (DARK, (Y,), 1)))
        self.assertEqual((), moves(HALL, (0,), (DARK, (), 1)))
        self.assertEqual(((("step", Y, False), LIT, (Y, IN), None),),
                         guest_moves(HALL.house, HALL.kinds, ANY, LIT, (Y,)))
        self.assertEqual(((("step", Y, False), DARK, (Y, IN), ("dark", "hall")),),
                         guest_moves(house=HALL.house, kinds=list(HALL.kinds), caps=ANY, row=DARK, places=(Y, IN)))

    def test_all_may_leave_a_place_but_the_first(self):
        world = World.read("part p\ndoor d out p open\nkind k\ngo d\ngo d\nagain 0\nplan")
        row = first_row(world.house)
        within, back, again = (0, 1, 0, None), (0, 2, -1, None), (0, 0, -1, None)
        told = moves(world, ANY, (row, (again, within, back), 0))
        self.assertEqual([("step", within, True), ("step", back, True)], [move[0] for move in told])
        self.assertEqual([(row, (again, back), 0), (row, (again, within), 0)], [move[1] for move in told])

    def test_what_changes_nothing_is_no_move(self):
        world = World.read("part p\ndoor d out p open\nkind k\nagain 0\nkind m\ngo d\nagain 1\nplan")
        first = first_standing(world, (None, None))
        self.assertEqual([("step", (1, 0, -1, None), False)], [move[0] for move in moves(world, (None, None), first)])
        behind = moves(world, (None, None), first)[0][1]
        self.assertEqual((), moves(world, (None, None), behind))
        self.assertEqual((), moves(world, (2, 1), moves(world, (2, 1), first_standing(world, (2, 1)))[0][1]))

    def test_the_same_row_of_moves_as_by_hand(self):
        chance = random.Random(1)
        for _ in range(150):
            world = random_world(chance, rows=5)
            caps = some_caps(chance, world)
            standing = first_standing(world, caps)
            for _ in range(12):
                told = moves(world, caps, standing)
                self.assertEqual(by_hand(world, caps, standing), told)
                self.assertEqual(fewer_by_hand(world, caps, standing), fewer(world, caps, standing))
                steps = tuple((what, after[0], after[1], harm) for what, after, harm in told if what != ("hand",))
                self.assertEqual(steps, guest_moves(world.house, world.kinds, caps, standing[0], standing[1]))
                going = [after for _, after, harm in told if harm is None]
                if not going:
                    break
                standing = chance.choice(going)

    def test_an_off_makes_two_places_one(self):
        world = World.read("part p\ndoor d out p open\ncell c p\nkind k\ngo d\nsee c\ngo d\nrest\nplan\noff p")
        row = first_row(world.house)
        old, new = (0, 3, -1, (0, 0, True)), (0, 3, -1, (0, 0, False))
        dark = ((True,), (False,), (0,), (0,), (0,))
        self.assertEqual((("hand",), (dark, (Y, old), 1), None), moves(world, ANY, (row, (Y, new, old), 0))[-1])
        self.assertEqual((("hand",), (dark, (old, old), 1), None), moves(world, (2,), (row, (new, old), 0))[-1])

    def test_errors(self):
        for call in (first_standing, Lots):
            for caps in [*VALUES, (None, None), [None], (True,), (-1,), ("1",), (1, 1), ()]:
                if caps != (1,) and caps != (None,):
                    self.assertEqual(("InvalidSize", "caps"), raised(call, HALL, caps), caps)
        for call in (moves, fewer):
            for caps in [(None, None), [None], (True,), (-1,), None]:
                self.assertEqual(("InvalidSize", "caps"), raised(call, HALL, caps, None), caps)
            for value in VALUES:
                self.assertEqual(("InvalidLot", -1), raised(call, HALL, ANY, value), value)

    def test_no_standings(self):
        world = World.read("part p\ndoor d out p open\ncell c p\nkind k\ngo d\nsee c\ngo d\nkind m\ngo d\nplan\noff p")
        row = ((True,), (True,), (0,), (0,), (0,))
        y, m, seen = (0, 0, -1, None), (1, 0, -1, None), (0, 2, 0, (0, 0, False))
        caps = (None, 2)
        good = (row, (y, seen, m, m), 1)
        for call in (moves, fewer):
            self.assertIsNone(raised(call, world, caps, good))
            wrong = [(row, (y, seen, m), 1), (row, (y, seen, m, m, m), 1), (row, (seen, m, m), 1), (row, (m, m), 1),
                     (row, (seen, y, m, m), 1), (row, (m, m, y, seen), 1), (row, (y, seen, seen, m, m), 1),
                     (row, (y, y, m, m), 1), (row, (y, m, m), 2), (row, (y, m, m), -1), (row, (y, m, m)),
                     (row, (y, (0, 4, 0, None), m, m), 0), (row, (y, m, m, (2, 0, -1, None)), 0),
                     (row, (y, (0, 1, 1, None), m, m), 0), (row, (y, (0, 1, 0, (1, 0, False)), m, m), 0),
                     (row, (y, (0, 1, 0, (0, 3, False)), m, m), 0), *bent(good)]
            for value in wrong:
                if value[2:] != (0,):
                    self.assertEqual(("InvalidLot", -1), raised(call, world, caps, value), value)


class AllStandings(unittest.TestCase):
    def test_example(self):
        lots = Lots(HALL, ANY)
        self.assertEqual((("inside", "hall"), ("dark", "hall")), lots.harms)
        self.assertEqual(((LIT, (Y,), 0), (LIT, (Y, IN), 0), (DARK, (Y,), 1)), lots.standings)
        self.assertIs(False, lots.calm)
        self.assertEqual((), lots.way(0))
        self.assertEqual((("hand",),), lots.way(number=2))
        self.assertEqual((("step", Y, False), ("hand",)), lots.story(("inside", "hall")))
        self.assertEqual((("hand",), ("step", Y, False)), lots.story(harm=["dark", "hall"]))
        calm = Lots(HALL.with_plan([("shut", "gate")]), ANY)
        self.assertEqual(((), True, None), (calm.harms, calm.calm, calm.story(("inside", "hall"))))

    def test_the_same_as_by_hand(self):
        chance = random.Random(2)
        for _ in range(60):
            world = random_world(chance, rows=3, deeds=3)
            caps = some_caps(chance, world)
            for is_short in (False, True):
                lots = Lots(world, caps, is_short=is_short)
                met, ways, harms = walk_by_hand(world, caps, is_short)
                self.assertEqual(tuple(met), lots.standings)
                self.assertEqual(ways, [lots.way(number) for number in range(len(met))])
                self.assertEqual(tuple(harms), lots.harms)
                self.assertEqual(not harms, lots.calm)
                for harm in harms:
                    self.assertEqual(harms[harm], lots.story(harm))

    def test_short_ones_have_the_same_harms(self):
        chance = random.Random(3)
        shorter = 0
        for _ in range(120):
            world = random_world(chance, rows=4)
            caps = some_caps(chance, world)
            whole, short = Lots(world, caps, 20000), Lots(world, caps, 20000, True)
            self.assertEqual(sorted(whole.harms), sorted(short.harms))
            self.assertLessEqual(set(short.standings), set(whole.standings))
            shorter += len(short.standings) < len(whole.standings)
        self.assertGreater(shorter, 30)

    def test_stories_of_each_harm(self):
        kinds = "kind a\ngo d\nset c 1\ntell c\ngo d\nkind b\ngo d\nsee c\ngo d\ngo d\nuse c\n"
        world = World.read("part p\ndoor d out p open\ncell c p\n" + kinds + "plan\noff p\non p")
        lots = Lots(world, (1, 1))
        for harm in (("inside", "p"), ("dark", "p"), ("stale", "c"), ("lost", "c")):
            whats = lots.story(harm)
            standing = first_standing(world, (1, 1))
            for at, what in enumerate(whats):
                standing, done = next(move[1:] for move in moves(world, (1, 1), standing) if move[0] == what)
                self.assertEqual(harm if at + 1 == len(whats) else None, done)
        self.assertEqual(4, len(lots.harms))

    def test_bound(self):
        many = len(Lots(HALL, ANY).standings)
        self.assertEqual(many, len(Lots(world=HALL, caps=ANY, bound=many, is_short=False).standings))
        self.assertEqual(("InvalidSize", "standings"), raised(Lots, HALL, ANY, many - 1))
        self.assertEqual(("InvalidSize", "standings"), raised(Lots, HALL, ANY, 0))
        plain = World.read("part p\ndoor d out p open\nkind k\ngo d\ngo d\ngo d\nplan")
        whole, short = Lots(plain, ANY).standings, Lots(plain, ANY, is_short=True).standings
        self.assertLess(len(short), len(whole))
        self.assertEqual(len(short), len(Lots(plain, ANY, len(short), True).standings))
        self.assertEqual(("InvalidSize", "standings"), raised(Lots, plain, ANY, len(short) - 1, True))
        self.assertEqual(("InvalidSize", "standings"), raised(Lots, plain, ANY, len(short)))

    def test_too_many(self):
        kinds = "".join(f"kind {name}\ngo d\nsee c\nset c 1\nset e 2\ngo d\n" for name in "ab")
        world = World.read(f"part p\ndoor d out p open\ncell c p\ncell e p\n{kinds}plan")
        self.assertEqual(("InvalidSize", "standings"), raised(Lots, world, (None, None)))

    def test_errors(self):
        for bound in VALUES:
            if bound is True or bound is False or not isinstance(bound, int) or bound < 0:
                self.assertEqual(("InvalidSize", "bound"), raised(Lots, HALL, ANY, bound), bound)
                self.assertEqual(("InvalidSize", "caps"), raised(Lots, HALL, (), bound), bound)
        lots = Lots(HALL, ANY)
        for number in VALUES:
            if number is True or number is False or not isinstance(number, int) or not 0 <= number < 3:
                self.assertEqual(("InvalidSize", "number"), raised(lots.way, number), number)
        for harm in [*VALUES, ("inside",), ("inside", "hall", "hall"), ("off", "hall"), ("inside", 1), (1, "hall"),
                     "inside hall", ("shut in", "hall"), ("for ever", "hall"), ("Inside", "hall"), ("", "")]:
            self.assertEqual(("InvalidSize", "harm"), raised(lots.story, harm), harm)
        for word in HARMS:
            for name in ("out", "gate", "x", "", "reader", "HALL") + (() if word in HARMS[:2] else ("hall",)):
                self.assertEqual(("NoName", name), raised(lots.story, (word, name)))
                self.assertEqual(("NoName", name), raised(lots.story, [word, name]))

    def test_not_iterable(self):
        with self.assertRaises(TypeError):
            iter(Lots(HALL, ANY))


if __name__ == "__main__":
    unittest.main()
