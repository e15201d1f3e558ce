"""[2], [20] to [22]: one guest, whatever is done around him, and one guest alone."""

import itertools
import random
import unittest

from helpers import VALUES, raised
from lightsout.guests import Kind, first_place, is_still, place_key, placed, step
from lightsout.house import House, first_row
from lightsout.plans import deed
from lightsout.single import (
    alone, guest_out, guest_places, guest_ranks, guest_strays, guest_traps, guest_way, places_behind)

SMALL = House(["p"], [("d", "out", "p", True)], [("c", "p", False)])
EXAMPLE = Kind("k", [("go", "d"), ("see", "c"), ("when", 1, 5), ("set", "c", 1), ("again", 1), ("go", "d")])
# Cells: c in p, not kept; e in p, kept; f in q, not kept.
WIDE = House(["p", "q"], [("d", "out", "p", False), ("e", "p", "q", True)],
             [("c", "p", False), ("k", "p", True), ("f", "q", False)])
WORDS = [("go", "d"), ("go", "e"), ("shut", "d"), ("open", "e"), ("see", "c"), ("see", "k"), ("see", "f"),
         ("set", "c", 1), ("wait", "f", 2), ("tell", "c"), ("use", "c"), ("use", "f"), ("rest",)]
NAMED = [guest_places, guest_strays, guest_ranks, guest_traps]


def some_kinds(seed, how_many):
    chance = random.Random(seed)
    for _ in range(how_many):
        many = chance.randrange(1, 7)
        jumps = [("when", chance.randrange(3), chance.randrange(many + 1)), ("again", chance.randrange(many + 1))]
        yield Kind("k", [chance.choice([*WORDS, *jumps, ("go", "d"), ("go", "e")]) for _ in range(many)])


def house_rows(house):
    """All house rows, but for what is saved, which no guest asks."""
    many = len(house.cells)
    bools = [True, False]
    for doors in itertools.product(bools, repeat=len(house.doors)):
        for lights in itertools.product(bools, repeat=len(house.parts)):
            for values in itertools.product(range(3), repeat=many):
                for told in itertools.product((0, 1, 3), repeat=many):
                    yield doors, lights, values, (0,) * many, told


def behind_by_hand(house, kinds, place):
    found = set()
    for row in house_rows(house):
        told = step(house, kinds, row, place)
        if told is not None and told[2] is None:
            found.add(told[1])
    for number, part in enumerate(house.parts):
        (aged,) = deed(house, first_row(house), [place], ("off", part))[1]
        if number != place[2] and aged != place:
            found.add(aged)
    return placed(found)


class Behind(unittest.TestCase):
    def behind(self, told, where, pocket=None, house=WIDE):
        kind = Kind("k", [told, ("rest",), ("rest",)])
        return [place[1:] for place in places_behind(house, [kind], (0, 0, where, pocket))]

    def test_each_word(self):
        self.assertEqual([(1, 0, None)], self.behind(("go", "d"), -1))
        self.assertEqual([(1, -1, None)], self.behind(("go", "d"), 0))
        self.assertEqual([], self.behind(("go", "d"), 1))
        self.assertEqual([(1, 0, None)], self.behind(("shut", "e"), 0))
        self.assertEqual([], self.behind(("open", "e"), -1))
        self.assertEqual([(1, 0, (0, value, False)) for value in range(3)], self.behind(("see", "c"), 0))
        self.assertEqual([(1, 1, (2, value, False)) for value in range(3)], self.behind(("see", "f"), 1, (2, 1, True)))
        for told in (("set", "c", 2), ("wait", "c", 0), ("wait", "c", 2), ("tell", "c")):
            self.assertEqual([(1, 0, None)], self.behind(told, 0))
            self.assertEqual([], self.behind(told, -1))
        self.assertEqual([(1, -1, None)], self.behind(("use", "c"), -1))
        self.assertEqual([], self.behind(("use", "c"), -1, (0, 1, True)))
        self.assertEqual([(1, 0, (0, 1, False))], self.behind(("use", "c"), 0, (0, 1, False)))
        self.assertEqual([(1, -1, (1, 1, True))], self.behind(("use", "c"), -1, (1, 1, True)))
        self.assertEqual([(2, 0, (0, 1, False))], self.behind(("when", 1, 2), 0, (0, 1, False)))
        self.assertEqual([(1, 0, (0, 2, False))], self.behind(("when", 1, 2), 0, (0, 2, False)))
        self.assertEqual([(0, 0, None)], self.behind(("again", 0), 0))
        self.assertEqual([], self.behind(("rest",), 0))

    def test_pockets_get_old(self):
        for told in (("rest",), ("go", "e"), ("wait", "f", 1)):
            self.assertEqual([(0, -1, (0, 1, True))], self.behind(told, -1, (0, 1, False)))
            self.assertEqual([], self.behind(told, -1, (0, 1, True)))
            self.assertEqual([], self.behind(told, -1, (1, 1, False)))
        self.assertEqual([(0, 1, (0, 1, True))], self.behind(("rest",), 1, (0, 1, False)))
        self.assertEqual([(0, 0, (2, 1, True))], self.behind(("rest",), 0, (2, 1, False)))
        self.assertEqual([], self.behind(("rest",), 0, (0, 1, False)))
        self.assertEqual([(0, -1, (0, 1, True)), (1, -1, (0, 1, False))], self.behind(("use", "c"), -1, (0, 1, False)))
        self.assertEqual([(0, -1, (2, 1, True)), (1, 0, (2, 1, False))], self.behind(("go", "d"), -1, (2, 1, False)))
        kinds = [Kind("k", [("rest",)])]
        self.assertEqual(((0, 1, -1, (0, 1, True)),), places_behind(WIDE, kinds, (0, 1, -1, (0, 1, False))))

    def test_by_all_house_rows(self):
        house = House(["p", "q"], [("d", "out", "p", True), ("e", "p", "q", True)], [("c", "p", False), ("f", "q", True)])
        pockets = [None] + [(cell, value, old) for cell in range(2) for value in range(2) for old in (False, True)]
        words = [told for told in WORDS if told[1:2] != ("k",)] + [("when", 1, 2), ("again", 0), ("again", 1)]
        for told in words:
            kind = Kind("k", [told, ("rest",)])
            for where in (-1, 0, 1):
                for pocket in pockets[::2 if told[0] == "go" else 3]:
                    place = (0, 0, where, pocket)
                    self.assertEqual(behind_by_hand(house, [kind], place), places_behind(house, [kind], place), place)

    def test_by_names_and_kinds(self):
        kinds = [Kind("a", [("rest",)]), EXAMPLE]
        self.assertEqual(((1, 1, 0, None),), places_behind(place=(1, 0, -1, None), kinds=kinds, house=SMALL))
        self.assertEqual(places_behind(SMALL, tuple(kinds), (1, 1, 0, None)), places_behind(SMALL, kinds, (1, 1, 0, None)))


class Come(unittest.TestCase):
    def test_places(self):
        kind = Kind("k", [("go", "d"), ("see", "c"), ("go", "d")])
        seen = [(0, 2, 0, (0, value, False)) for value in range(3)]
        out = [(0, 3, -1, (0, value, old)) for value in range(3) for old in (False, True)]
        self.assertEqual(((0, 0, -1, None), (0, 1, 0, None), *seen, *out), guest_places(SMALL, [kind], 0))
        self.assertEqual(((1, 0, -1, None),), guest_places(SMALL, [kind, Kind("m", [("rest",)])], 1))
        kept = SMALL.with_kept(["c"])
        self.assertEqual((*seen, *out[::2]), guest_places(house=kept, kinds=[kind], number=0)[2:])

    def test_way_of_the_example(self):
        self.assertEqual(((0, 0, -1, None), (0, 1, 0, None), (0, 2, 0, (0, 1, False)), (0, 5, 0, (0, 1, False))),
                         guest_way(SMALL, [EXAMPLE], 0, (0, 5, 0, (0, 1, False))))
        self.assertEqual(((0, 0, -1, None),), guest_way(SMALL, [EXAMPLE], 0, (0, 0, -1, None)))
        for place in ((0, 5, 0, (0, 2, False)), (0, 2, 0, (0, 1, True)), (0, 6, 0, None), (0, 0, 0, None)):
            self.assertIsNone(guest_way(SMALL, [EXAMPLE], 0, place))
        kinds = [EXAMPLE, Kind("m", [("rest",)])]
        self.assertIsNone(guest_way(SMALL, kinds, 0, (1, 0, -1, None)))
        self.assertEqual(((1, 0, -1, None),), guest_way(place=(1, 0, -1, None), number=1, kinds=kinds, house=SMALL))

    def test_first_of_the_shortest_ways(self):
        kind = Kind("k", [("go", "d"), ("see", "c"), ("see", "k"), ("go", "d")])
        way = guest_way(WIDE, [kind], 0, (0, 4, -1, (1, 2, False)))
        self.assertEqual((0, 2, 0, (0, 0, False)), way[2])
        self.assertEqual((0, 3, 0, (1, 2, False)), way[3])

    def test_many(self):
        for kind in some_kinds(1, 60):
            kinds = [kind]
            places = guest_places(WIDE, kinds, 0)
            first = first_place(0)
            levels, met = [[(first,)]], {first: (first,)}
            while levels[-1]:
                longer = [(*way, other) for way in levels[-1] for other in places_behind(WIDE, kinds, way[-1])]
                best = {}
                for way in longer:
                    if way[-1] not in met:
                        best[way[-1]] = min(best.get(way[-1], way), way, key=lambda row: [place_key(x) for x in row])
                met.update(best)
                levels.append(list(best.values()))
            self.assertEqual(placed(met), places)
            for place in places:
                self.assertEqual(met[place], guest_way(WIDE, kinds, 0, place))
            self.check_ranks(kinds, places)

    def check_ranks(self, kinds, places):
        ranks = dict(guest_ranks(WIDE, kinds, 0))
        self.assertEqual(list(places), list(ranks))
        for place, rank in ranks.items():
            behind = [ranks[other] for other in places_behind(WIDE, kinds, place) if ranks[other] is not None]
            self.assertEqual(0 if place[2] == -1 else min(behind, default=-1) + 1 if behind else None, rank)
            way = guest_out(WIDE, kinds, place)
            if rank is None:
                self.assertIsNone(way)
            else:
                self.assertEqual((rank + 1, place, -1), (len(way), way[0], way[-1][2]))
                self.assertTrue(all(there in places_behind(WIDE, kinds, here) for here, there in zip(way, way[1:])))
        traps = tuple(place for place in places if ranks[place] is None)
        self.assertEqual(traps, guest_traps(WIDE, kinds, 0))
        strays = tuple(place for place in places if is_still(WIDE, kinds, place) and place[1] < len(kinds[0].rows)
                       and kinds[0].rows[place[1]] != ("rest",))
        self.assertEqual(strays, guest_strays(WIDE, kinds, 0))


class Out(unittest.TestCase):
    def test_strays(self):
        self.assertEqual((), guest_strays(SMALL, [EXAMPLE], 0))
        kind = Kind("k", [("go", "d"), ("see", "f"), ("go", "e")])
        self.assertEqual(((0, 1, 0, None),), guest_strays(WIDE, [kind], 0))
        kind = Kind("k", [("see", "c")])
        self.assertEqual(((0, 0, -1, None),), guest_strays(WIDE, [kind], 0))
        for rows in ([("rest",)], [("go", "d")], [("go", "d"), ("rest",), ("see", "f")], [("go", "d"), ("use", "f")]):
            self.assertEqual((), guest_strays(WIDE, [Kind("k", rows)], 0))
        kinds = (EXAMPLE, Kind("m", [("go", "d"), ("see", "f")]))
        self.assertEqual(((1, 1, 0, None),), guest_strays(house=WIDE, kinds=kinds, number=1))

    def test_out(self):
        kinds = [Kind("k", [("go", "d"), ("go", "e"), ("go", "e"), ("again", 5), ("rest",), ("go", "d")])]
        self.assertEqual(((0, 0, -1, None),), guest_out(WIDE, kinds, (0, 0, -1, None)))
        self.assertEqual(((0, 2, 1, None), (0, 3, 0, None), (0, 5, 0, None), (0, 6, -1, None)),
                         guest_out(WIDE, kinds, (0, 2, 1, None)))
        self.assertIsNone(guest_out(WIDE, kinds, (0, 4, 0, None)))
        self.assertIsNone(guest_out(WIDE, kinds, (0, 6, 0, None)))
        self.assertIsNone(guest_out(house=WIDE, kinds=kinds, place=(0, 5, 1, None)))

    def test_ranks_and_traps(self):
        kinds = [Kind("k", [("go", "d"), ("see", "c"), ("when", 0, 4), ("rest",), ("go", "d")])]
        self.assertEqual((((0, 0, -1, None), 0), ((0, 1, 0, None), 3), ((0, 2, 0, (0, 0, False)), 2),
                          ((0, 2, 0, (0, 1, False)), None), ((0, 2, 0, (0, 2, False)), None),
                          ((0, 3, 0, (0, 1, False)), None), ((0, 3, 0, (0, 2, False)), None),
                          ((0, 4, 0, (0, 0, False)), 1), ((0, 5, -1, (0, 0, False)), 0), ((0, 5, -1, (0, 0, True)), 0)),
                         guest_ranks(SMALL, kinds, 0))
        self.assertEqual(((0, 2, 0, (0, 1, False)), (0, 2, 0, (0, 2, False)), (0, 3, 0, (0, 1, False)),
                          (0, 3, 0, (0, 2, False))), guest_traps(house=SMALL, kinds=kinds, number=0))
        self.assertEqual((), guest_traps(SMALL, [EXAMPLE], 0))


class Alone(unittest.TestCase):
    def end(self, rows, house=SMALL, row=None):
        told, end = alone(house, [Kind("k", rows)], 0, row or first_row(house))
        self.assertEqual(((row or first_row(house)), (0, 0, -1, None)), told[0])
        return [place[1:] for _, place in told], end

    def test_example(self):
        told, end = alone(SMALL, [EXAMPLE], 0, first_row(SMALL))
        self.assertEqual((9, ("rests",), (0, 6, -1, (0, 1, False))), (len(told), end, told[-1][1]))
        self.assertEqual((1,), told[-1][0][2])

    def test_ends(self):
        self.assertEqual(([(0, -1, None), (1, 0, None)], ("rests",)), self.end([("go", "d"), ("rest",), ("go", "d")]))
        self.assertEqual(([(0, -1, None), (1, 0, None)], ("rests",)), self.end([("go", "d")]))
        self.assertEqual(([(0, -1, None)], ("rests",)), self.end([("rest",)]))
        self.assertEqual(([(0, -1, None)], ("stray", 0)), self.end([("see", "c")]))
        self.assertEqual(([(0, -1, None), (1, 0, None), (2, -1, None)], ("stray", 2)),
                         self.end([("go", "d"), ("go", "d"), ("tell", "c")]))
        lit = ((True, True), (True, True), (0, 0, 0), (0, 0, 0), (0, 0, 0))
        self.assertEqual(([(0, -1, None), (1, 0, None)], ("stray", 1)), self.end([("go", "d"), ("wait", "f", 0)], WIDE, lit))
        self.assertEqual(([(0, -1, None), (1, 0, None)], ("waits", 1)), self.end([("go", "d"), ("wait", "c", 2)]))
        self.assertEqual(([(0, -1, None)], ("waits", 0)), self.end([("go", "d")], WIDE))
        self.assertEqual(([(0, -1, None), (1, -1, None)], ("waits", 1)), self.end([("shut", "d"), ("go", "d")]))

    def test_rings(self):
        self.assertEqual(([(0, -1, None)], ("ring", 0)), self.end([("again", 0)]))
        self.assertEqual(([(0, -1, None), (1, 0, None)], ("ring", 1)), self.end([("go", "d"), ("again", 1)]))
        self.assertEqual(([(0, -1, None), (1, 0, None), (2, -1, None)], ("ring", 0)),
                         self.end([("go", "d"), ("go", "d"), ("again", 0)]))
        places, end = self.end([("go", "d"), ("see", "c"), ("set", "c", 2), ("again", 1)])
        self.assertEqual((("ring", 5), 8), (end, len(places)))
        told, end = alone(SMALL, [Kind("k", [("shut", "d"), ("open", "d"), ("again", 0)])], 0, first_row(SMALL))
        self.assertEqual({tuple}, {type(row) for row in (told, end, *told)})
        self.assertEqual((("ring", 0), [True, False, True]), (end, [row[0][0] for row, _ in told]))

    def test_harms(self):
        dark = ((True,), (False,), (0,), (0,), (0,))
        self.assertEqual(([(0, -1, None), (1, 0, None)], ("dark", "p")), self.end([("go", "d"), ("rest",)], row=dark))
        lost = ((True,), (True,), (1,), (0,), (4,))
        self.assertEqual(([(0, -1, None), (1, 0, None), (2, 0, (0, 1, False))], ("lost", "c")),
                         self.end([("go", "d"), ("see", "c")], row=lost))

    def test_one_a_stands_still_and_a_second_one_goes_on(self):
        house = House(["p", "q"], [("d", "out", "p", True), ("e", "p", "q", True)], [("c", "p", False)])
        rows = [("go", "d"), ("see", "c"), ("set", "c", 1), ("when", 0, 3), ("go", "e")]
        told, end = alone(house, [Kind("a", rows)], 0, first_row(house))
        self.assertEqual((4, ("ring", 3)), (len(told), end))
        dark = ((True, True), (True, False), (1,), (0,), (0,))
        told, end = alone(house, [Kind("a", rows)], 0, dark)
        self.assertEqual((6, ("dark", "q"), (dark, (0, 5, 1, (0, 1, False)))), (len(told), end, told[-1]))

    def test_kind_and_names(self):
        kinds = (Kind("a", [("rest",)]), Kind("b", [("go", "d")]))
        row = first_row(SMALL)
        self.assertEqual((((row, (1, 0, -1, None)), (row, (1, 1, 0, None))), ("rests",)), alone(SMALL, kinds, 1, row))
        self.assertEqual(alone(SMALL, kinds, 1, row), alone(row=row, number=1, kinds=list(kinds), house=SMALL))


class Errors(unittest.TestCase):
    def setUp(self):
        self.bad = [EXAMPLE, Kind("m", [("rest",), ("go", "zz"), ("see", "yy")])]

    def test_numbers(self):
        row = first_row(SMALL)
        for value in [*VALUES, 2, -1]:
            if type(value) is not int or value not in (0, 1):
                for call in NAMED:
                    self.assertEqual(("InvalidLot", 0), raised(call, SMALL, self.bad, value))
                self.assertEqual(("InvalidLot", 0), raised(guest_way, SMALL, self.bad, value, (0, 0, -1, None)))
                self.assertEqual(("InvalidLot", 0), raised(alone, SMALL, self.bad, value, None))
        for call in NAMED:
            self.assertEqual(("NoName", "zz"), raised(call, SMALL, self.bad, 0))
        self.assertEqual(("NoName", "zz"), raised(alone, SMALL, self.bad, 0, row))

    def test_places(self):
        calls = [places_behind, guest_out, lambda house, kinds, place: guest_way(house, kinds, 1, place)]
        wrong = [[0, 0, -1, None], (0, 0, -1), (0, 0, -1, None, None), (2, 0, -1, None), (-1, 0, -1, None),
                 (True, 0, -1, None), (0, 7, -1, None), (1, 4, -1, None), (0, -1, -1, None), (0, False, -1, None),
                 (0, 0, -2, None), (0, 0, 1, None), (0, 0, False, None), (0, 0, None, None), (0, 0, "out", None),
                 (0, 0, -1, ()), (0, 0, -1, (0, 0)), (0, 0, -1, [0, 0, False]), (0, 0, -1, (1, 0, False)),
                 (0, 0, -1, (-1, 0, False)), (0, 0, -1, (0, 3, False)), (0, 0, -1, (0, -1, False)),
                 (0, 0, -1, (0, True, False)), (0, 0, -1, (False, 0, False)), (0, 0, -1, (0, 0, 0)),
                 (0, 0, -1, (0, 0, None)), (0, 0, -1, False), (0, 0, -1, (0, 0, False, 0)), (None, 0, -1, None), *VALUES]
        for call in calls:
            for place in wrong:
                self.assertEqual(("InvalidLot", 0), raised(call, SMALL, self.bad, place), place)
            for place in ((0, 6, 0, (0, 2, True)), (1, 3, -1, None), (0, 0, -1, None)):
                self.assertEqual(("NoName", "zz"), raised(call, SMALL, self.bad, place), place)
                self.assertIsNone(raised(call, SMALL, [EXAMPLE, Kind("m", [("rest",)] * 3)], place))

    def test_house_rows(self):
        for value in [*VALUES, first_row(WIDE), list(first_row(SMALL)), ((1,), (True,), (0,), (0,), (0,))]:
            self.assertEqual(("InvalidHouse", 0), raised(alone, SMALL, self.bad, 0, value))

    def test_names(self):
        self.assertEqual(("NoName", "yy"), raised(guest_places, SMALL, [EXAMPLE, Kind("m", [("use", "yy")])], 0))
        self.assertEqual(("NoName", "p"), raised(guest_places, SMALL, [Kind("m", [("go", "p")])], 0))


if __name__ == "__main__":
    unittest.main()
