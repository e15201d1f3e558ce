"""[2], [14] to [17]: houses seen from outside."""

import itertools
import random
import unittest

from helpers import VALUES, raised
from lightsout.house import House
from lightsout.views import (
    closers, core_house, cut_off, dark_orders, first_cut, held_within, matching, may_go, needful_doors, outline,
    told_apart, ways_apart, ways_hold, where_behind)

TEXT = """part hall
part cellar
part loft
door gate out hall open
door back out cellar shut
door stair hall loft open
door hatch hall cellar open
cell c hall"""
EXAMPLE = House.read(TEXT)
# Parts x, y and the doors g, h are far from the yard.
WIDE = House.read(TEXT.replace("part loft", "part loft\npart x\npart y").replace(
    "cell c hall", "door g x y open\ncell c hall\ncell d loft kept\ncell k x"))
LONE = House(["a", "b"], [("d", "a", "b", True)], [("c", "a", False)])


def some_houses(seed, how_many, parts=4, doors=6, cells=2):
    chance = random.Random(seed)
    for _ in range(how_many):
        names = chance.sample(["pa", "pb", "pc", "pd", "pe", "pf"], chance.randrange(1, parts + 1))
        rows = [(name, *chance.sample([*names, "out"], 2), chance.random() < 0.5)
                for name in chance.sample("rstuvwxyz", chance.randrange(doors + 1))]
        told = [(name, chance.choice(names), chance.random() < 0.5)
                for name in chance.sample("abc", chance.randrange(cells + 1))]
        yield House(names, rows, told)


def all_ways(house, parts):
    """All ways to a lot, by going on from the yard."""
    lot = [house.parts.index(name) for name in parts]
    found = []

    def go_on(spots, way):
        if spots[-1] in lot:
            found.append(way)
            return
        for door, ends in zip(house.doors, house.ends):
            for here, there in (ends, ends[::-1]):
                if here == spots[-1] and there not in spots:
                    go_on([*spots, there], (*way, door[0]))

    go_on([-1], ())
    return found


def are_apart(ways):
    names = [name for way in ways for name in way]
    return len(set(names)) == len(names)


def lots_of(house):
    for size in range(1, len(house.parts) + 1):
        yield from itertools.combinations(house.parts, size)


def is_held(house, lot):
    """Whether there is a way to each part through the lot alone."""
    doors = [door for door in house.doors if all(end in (*lot, "out") for end in door[1:3])]
    inner = House(house.parts, doors, [])
    return all(all_ways(inner, [part]) for part in lot)


def core_of(house):
    return tuple(part for part in house.parts if all_ways(house, [part]))


class Seen(unittest.TestCase):
    def test_where_behind(self):
        go = ("go", "gate")
        self.assertEqual(-1, where_behind(EXAMPLE, []))
        self.assertEqual(0, where_behind(EXAMPLE, [go]))
        self.assertEqual(2, where_behind(EXAMPLE, (go, ["see", "c"], ("go", "stair"))))
        self.assertEqual(-1, where_behind(house=EXAMPLE, deeds=[go, go]))
        self.assertEqual(1, where_behind(EXAMPLE, [("open", "back"), ("go", "back")]))
        self.assertEqual(0, where_behind(EXAMPLE, [("open", "gate"), go, ("open", "gate"), ("see", "c"), ("see", "c")]))
        for deeds in ([("go", "back")], [("go", "stair")], [("open", "stair")], [("see", "c")], [("go", "zz")],
                      [("open", "hall")], [("see", "gate")], [("go", "c")], [("see", "zz"), go],
                      [go, ("open", "back"), go], [go, ("go", "stair"), ("see", "c")]):
            self.assertIsNone(where_behind(EXAMPLE, deeds), deeds)

    def test_no_deeds(self):
        for value in VALUES:
            if not isinstance(value, (list, tuple)):
                self.assertEqual(("InvalidStory", 0), raised(where_behind, EXAMPLE, value))
        wrong = [("go",), ("go", "gate", "gate"), ("shut", "gate"), ("go", "out"), ("go", "Gate"), ("go", 0),
                 ("set", "c", 1), ("come", "k"), ("step", "gate"), (["go"], "gate"), ("go", ["gate"]), "go gate",
                 ("gate", "go"), (None, "gate"), *VALUES]
        for told in wrong:
            self.assertEqual(("InvalidStory", 0), raised(where_behind, EXAMPLE, [told, None]), told)
            self.assertEqual(("InvalidStory", 2), raised(where_behind, EXAMPLE, [("go", "zz"), ("go", "gate"), told]))

    def test_core(self):
        self.assertIsNone(core_house(LONE))
        self.assertIsNone(core_house(House(["a"], [], [])))
        self.assertEqual(EXAMPLE, core_house(EXAMPLE))
        text = TEXT.replace("cell c hall", "cell c hall\ncell d loft kept")
        self.assertEqual(House.read(text), core_house(WIDE))
        for house in some_houses(1, 60):
            names = core_of(house)
            core = core_house(house)
            if not names:
                self.assertIsNone(core)
            else:
                doors = [door for door in house.doors if all(end in (*names, "out") for end in door[1:3])]
                self.assertEqual(House(names, doors, [cell for cell in house.cells if cell[1] in names]), core)

    def test_outline(self):
        doors = (("back", 0, 1, False), ("gate", 0, 2, True), ("hatch", 1, 2, True), ("stair", 2, 3, True))
        self.assertEqual((doors, (("c", 2),)), outline(EXAMPLE))
        self.assertEqual((doors, (("c", 2), ("d", 3))), outline(house=WIDE))
        self.assertEqual(((), ()), outline(LONE))

    def test_numbers_by_least_ways(self):
        # The first names that the house tells are not those of the least ways: by a and d to pb, by a and e to pc.
        house = House(["pc", "pb", "px", "pq"], [("b", "pq", "out", True), ("a", "out", "px", True),
                                                 ("e", "pc", "px", False), ("d", "pb", "px", True),
                                                 ("c", "pq", "pc", True)], [])
        self.assertEqual((("a", 0, 1, True), ("b", 0, 2, True), ("c", 2, 4, True), ("d", 1, 3, True),
                          ("e", 1, 4, False)), outline(house)[0])
        self.assertEqual((("px", "px"), ("pq", "pq"), ("pb", "pb"), ("pc", "pc")), matching(house, house))

    def test_outline_by_hand(self):
        for house in some_houses(2, 60):
            ways = {part: min((len(way), way) for way in all_ways(house, [part])) for part in core_of(house)}
            numbers = {"out": 0, **{part: at + 1 for at, part in enumerate(sorted(ways, key=ways.get))}}
            doors = [(name, *sorted([numbers[one], numbers[other]]), is_open)
                     for name, one, other, is_open in house.doors if one in numbers and other in numbers
                     and len(numbers) > 1]
            cells = [(name, numbers[part]) for name, part, _ in house.cells if part in numbers]
            self.assertEqual((tuple(sorted(doors)), tuple(sorted(cells))), outline(house))

    def test_what_is_never_seen(self):
        other = TEXT.replace("hall", "den").replace("cell c den", "cell c den kept").split("\n")
        other = ["part loft", "part cellar", "part den", *other[3:5][::-1], *other[5:]]
        house = House.read("\n".join(other))
        self.assertEqual(outline(EXAMPLE), outline(house))
        self.assertIsNone(told_apart(EXAMPLE, house))
        self.assertEqual((("cellar", "cellar"), ("hall", "den"), ("loft", "loft")), matching(EXAMPLE, house))
        core = WIDE.with_kept([])
        self.assertEqual(outline(core_house(core)), outline(WIDE))
        self.assertIsNone(told_apart(WIDE, core_house(core)))

    def test_example(self):
        house = House(EXAMPLE.parts, [EXAMPLE.doors[0], ("back", "out", "hall", False), *EXAMPLE.doors[2:]], EXAMPLE.cells)
        self.assertEqual((("go", "gate"), ("open", "back")), told_apart(EXAMPLE, house))
        self.assertEqual((("go", "gate"), ("open", "back")), told_apart(house, EXAMPLE))
        self.assertIsNone(matching(one=EXAMPLE, other=house))

    def test_houses_without_a_door_to_the_yard(self):
        self.assertEqual((), matching(LONE, House(["z"], [], [])))
        self.assertIsNone(told_apart(LONE, House(["z"], [], [])))
        self.assertEqual((("go", "gate"),), told_apart(LONE, EXAMPLE))

    def test_told_apart_by_hand(self):
        houses = list(some_houses(3, 14, 3, 3, 1)) + list(some_houses(4, 10, 2, 2, 2))
        for one, other in itertools.combinations(houses, 2):
            self.check_apart(one, other)
        for one in some_houses(5, 40, 3, 4, 1):
            for at, door in enumerate(one.doors):
                doors = list(one.doors)
                doors[at] = (*door[:3], not door[3])
                self.check_apart(one, House(one.parts, doors, one.cells))

    def test_told_apart_by_a_cell(self):
        there = House(EXAMPLE.parts, EXAMPLE.doors, [("c", "loft", False)])
        self.assertEqual((("go", "gate"), ("see", "c")), told_apart(EXAMPLE, there))
        gone = House(EXAMPLE.parts, EXAMPLE.doors, [])
        self.assertEqual((("go", "gate"), ("go", "stair"), ("see", "c")), told_apart(there, gone))
        more = House(EXAMPLE.parts, EXAMPLE.doors, [("c", "hall", True), ("k", "hall", True)])
        self.assertEqual((("go", "gate"), ("see", "k")), told_apart(EXAMPLE, more))
        for one in some_houses(13, 40, 3, 4, 2):
            for at, cell in enumerate(one.cells):
                for part in one.parts:
                    cells = [*one.cells[:at], (cell[0], part, True), *one.cells[at + 1:]]
                    self.check_apart(one, House(one.parts, one.doors, cells))

    def check_apart(self, one, other):
        names = sorted({door[0] for house in (one, other) for door in house.doors})
        cells = sorted({cell[0] for house in (one, other) for cell in house.cells})
        deeds = [("go", name) for name in names] + [("open", name) for name in names] + [("see", name) for name in cells]
        row = told_apart(one=one, other=other)
        if outline(one) == outline(other):
            self.assertIsNone(row)
            parts = matching(one, other)
            self.assertEqual((set(core_of(one)), set(core_of(other))), ({a for a, _ in parts}, {b for _, b in parts}))
        else:
            self.assertIsNone(matching(one, other))
            self.assertNotEqual(where_behind(one, row) is None, where_behind(other, row) is None)
        for many in range(1, 4 if row is None else min(4, len(row) + 1)):
            found = [told for told in itertools.product(deeds, repeat=many)
                     if (where_behind(one, told) is None) != (where_behind(other, told) is None)]
            self.assertEqual(min(found, default=None), row if row is not None and len(row) == many else None)

    def test_far_apart(self):
        rows = ["door d pa out shut", "door e pa pb shut", "door f pb pc shut", "door g pc pd shut"]
        head = "part pa\npart pb\npart pc\npart pd\n"
        one, other = House.read(head + "\n".join(rows)), House.read(head + "\n".join(rows[:3]))
        way = sum([(("open", name), ("go", name)) for name in "def"], ())
        self.assertEqual((*way, ("open", "g")), told_apart(one, other))


class Ways(unittest.TestCase):
    def test_example(self):
        self.assertEqual((("back", "gate"), ("stair",)), (closers(EXAMPLE, ["cellar"]), needful_doors(EXAMPLE, "loft")))

    def test_by_hand(self):
        for parts, many in ((["cellar"], 2), (["loft"], 1), (["loft", "cellar"], 2), (["hall"], 2)):
            ways = ways_apart(EXAMPLE, parts)
            self.assertEqual(many, len(ways))
            self.assertTrue(ways_hold(EXAMPLE, tuple(parts), ways))
        self.assertEqual(((), ()), (ways_apart(WIDE, ["x", "y"]), closers(WIDE, ["x"])))
        self.assertTrue(ways_hold(WIDE, ["x"], ()))
        self.assertTrue(ways_hold(WIDE, ["x"], []))
        self.assertEqual(("stair",), closers(EXAMPLE, ["loft"]))

    def test_many(self):
        for house in [*some_houses(6, 60), *some_houses(7, 60, 6, 8)]:
            for lot in list(lots_of(house))[:14]:
                self.check_ways(house, lot)

    def check_ways(self, house, lot):
        ways = all_ways(house, lot)
        many = max((size for size in range(1, len(ways) + 1)
                    if any(map(are_apart, itertools.combinations(ways, size)))), default=0) if len(ways) < 9 else None
        found = ways_apart(house, lot)
        self.assertTrue(are_apart(found) and all(way in ways for way in found))
        if many is not None:
            self.assertEqual(many, len(found))
        names = sorted(door[0] for door in house.doors)
        closed = closers(house, list(lot))
        self.assertEqual(len(found), len(closed))
        lots = [some for some in itertools.combinations(names, len(found))
                if all(set(way) & set(some) for way in ways)]
        self.assertEqual(min(lots), closed)
        self.assertTrue(ways_hold(house, lot, found))
        self.assertTrue(ways_hold(house, lot, [list(way) for way in found[::-1]]))
        if found:
            self.assertFalse(ways_hold(house, lot, found[1:]))

    def test_ways_that_are_spoilt(self):
        good = [("back",), ("gate", "hatch")]
        self.assertIs(True, ways_hold(house=EXAMPLE, parts=["cellar"], value=good))
        spoilt = [[("back",)], [("gate", "hatch")], [*good, ("gate",)], [("back",), ("gate",)], [("back",), ("back",)],
                  [("back",), ("gate", "stair")], [("back",), ("hatch", "gate")], [("back",), ("gate", "hatch", "back")],
                  [("back",), ("gate", "gate", "gate", "hatch")], [("back",), ("gate", "stair", "stair", "hatch")],
                  [("back",), ("gate", "zz")], [("back",), ("gate", "cellar")], [("back",), ()], [(), ()], [],
                  [("back",), ("gate", 3)], [("back",), ("gate", ["hatch"])], [("back",), ("gate", None)],
                  [("back", "hatch", "gate"), ("gate", "hatch")], [("back",), "gate hatch"], ["back", "gate"],
                  ("back", ("gate", "hatch")), [*good, ()], [*good, good[0]], [("back",), ("gate", True)], *VALUES]
        for value in spoilt:
            self.assertIs(False, ways_hold(EXAMPLE, ["cellar"], value), value)
        # Through the cellar to the hall: with both in the lot the way has come to one of them before its end.
        self.assertTrue(ways_hold(EXAMPLE, ["hall"], [("back", "hatch"), ("gate",)]))
        self.assertFalse(ways_hold(EXAMPLE, ["hall", "cellar"], [("back", "hatch"), ("gate",)]))
        self.assertTrue(ways_hold(EXAMPLE, ["hall", "cellar"], [("back",), ("gate",)]))

    def test_a_way_that_must_be_taken_back(self):
        # The shortest way goes through m; of the two ways together none does.
        rows = ["door a out pa open", "door m pa pb open", "door b pb pv open", "door x out px open", "door y px pb open",
                "door s pa py open", "door t py pv shut"]
        for doors in (rows, rows[::-1], rows[3:] + rows[:3]):
            house = House.read("\n".join(["part pa", "part pb", "part px", "part py", "part pv", *doors]))
            ways = ways_apart(house, ["pv"])
            self.assertEqual([("a", "s", "t"), ("x", "y", "b")], sorted(ways))
            self.assertTrue(ways_hold(house, ["pv"], ways))
            self.assertEqual(("a", "x"), closers(house, ["pv"]))
            turned = House(house.parts, [(name, other, one, True) for name, one, other, _ in house.doors], [])
            self.assertEqual(sorted(ways), sorted(ways_apart(turned, ["pv"])))

    def test_ways_that_come_twice_to_a_part_or_the_yard(self):
        text = "part hall\npart cellar\npart loft\ndoor gate out hall open\ndoor back hall out open\n"
        rings = House.read(text + "door hatch hall cellar open\ndoor chute cellar hall open\ndoor stair hall loft open")
        self.assertTrue(ways_hold(rings, ["loft"], [("gate", "stair")]))
        self.assertTrue(ways_hold(rings, ["loft"], [("back", "stair")]))
        self.assertFalse(ways_hold(rings, ["loft"], [("gate", "hatch", "chute", "stair")]))
        yard = House.read(text + "door side out cellar open\ndoor stair cellar loft open")
        self.assertTrue(ways_hold(yard, ["loft"], [("side", "stair")]))
        self.assertFalse(ways_hold(yard, ["loft"], [("gate", "back", "side", "stair")]))

    def test_needful_doors(self):
        self.assertEqual((), needful_doors(EXAMPLE, "cellar"))
        self.assertEqual((), needful_doors(EXAMPLE, "hall"))
        self.assertEqual(("stair",), needful_doors(house=EXAMPLE, part="loft"))
        self.assertIsNone(needful_doors(WIDE, "x"))
        self.assertIsNone(needful_doors(LONE, "a"))
        row = House(["c", "b", "a"], [("m", "b", "a", False), ("z", "out", "a", True), ("d", "b", "c", True)], [])
        self.assertEqual(("z", "m", "d"), needful_doors(row, "c"))
        for house in some_houses(8, 60):
            for part in house.parts:
                ways = all_ways(house, [part])
                every = tuple(name for name in ways[0] if all(name in way for way in ways)) if ways else None
                self.assertEqual(every, needful_doors(house, part))
        for value in VALUES:
            if value != "p":
                self.assertEqual(("NoName", value), raised(needful_doors, EXAMPLE, value))
        for name in ("gate", "c", "p"):
            self.assertEqual(("NoName", name), raised(needful_doors, EXAMPLE, name))


class Lots(unittest.TestCase):
    def test_errors(self):
        calls = [ways_apart, closers, held_within, may_go, lambda house, parts: ways_hold(house, parts, None)]
        for call in calls:
            for value in VALUES:
                if not isinstance(value, (list, tuple)):
                    self.assertEqual(("InvalidLot", 0), raised(call, EXAMPLE, value))
                if isinstance(value, str) and value in ("a", "p", "go"):
                    self.assertEqual(("NoName", value), raised(call, EXAMPLE, ["hall", value, None]))
                else:
                    self.assertEqual(("InvalidLot", 0), raised(call, EXAMPLE, [value, "zz"]))
                    self.assertEqual(("InvalidLot", 2), raised(call, EXAMPLE, ("hall", "loft", value)))
            self.assertEqual(("InvalidLot", 1), raised(call, EXAMPLE, ["hall", "hall", "zz"]))
            self.assertEqual(("InvalidLot", 2), raised(call, EXAMPLE, ["hall", "cellar", "hall"]))
            self.assertEqual(("NoName", "gate"), raised(call, EXAMPLE, ["hall", "gate", "hall"]))
            self.assertEqual(("NoName", "c"), raised(call, EXAMPLE, ["c", "out"]))
            self.assertEqual(("InvalidLot", 0), raised(call, EXAMPLE, ["out", "c"]))
        for call in (calls[0], calls[1], calls[4]):
            self.assertEqual(("InvalidLot", 0), raised(call, EXAMPLE, []))
            self.assertEqual(("InvalidLot", 0), raised(call, EXAMPLE, ()))

    def test_held_within(self):
        self.assertEqual((), held_within(EXAMPLE, []))
        self.assertEqual((), held_within(EXAMPLE, ["loft"]))
        self.assertEqual(("hall", "loft"), held_within(house=EXAMPLE, parts=("loft", "hall")))
        self.assertEqual(("cellar",), held_within(EXAMPLE, ["loft", "cellar"]))
        self.assertEqual(("hall",), held_within(WIDE, ["x", "y", "hall"]))
        for house in some_houses(9, 30):
            for lot in lots_of(house):
                held = [some for size in range(len(lot) + 1) for some in itertools.combinations(house.parts, size)
                        if set(some) <= set(lot) and is_held(house, some)]
                self.assertEqual(max(held, key=len), held_within(house, lot[::-1]))

    def test_may_go(self):
        self.assertEqual((), may_go(EXAMPLE, ()))
        self.assertEqual(("cellar", "loft"), may_go(EXAMPLE, ["loft", "cellar", "hall"]))
        self.assertEqual(("loft",), may_go(house=EXAMPLE, parts=["hall", "loft"]))
        self.assertEqual(("InvalidLot", 1), raised(may_go, EXAMPLE, ["cellar", "loft"]))
        self.assertEqual(("InvalidLot", 0), raised(may_go, EXAMPLE, ["loft", "cellar"]))
        self.assertEqual(("NoName", "zz"), raised(may_go, EXAMPLE, ["loft", "zz"]))
        self.assertEqual(("InvalidLot", 1), raised(may_go, WIDE, ["hall", "y", "x"]))
        for house in some_houses(10, 30):
            for lot in lots_of(house):
                if is_held(house, lot):
                    free = [part for part in lot if is_held(house, [other for other in lot if other != part])]
                    self.assertEqual(tuple(free), may_go(house, lot[::-1]))
                    self.assertTrue(free)
                else:
                    self.assertEqual("InvalidLot", raised(may_go, house, lot)[0])


class Orders(unittest.TestCase):
    def test_example(self):
        self.assertEqual((3, ("loft",)), (dark_orders(EXAMPLE), cut_off(EXAMPLE, ["cellar", "hall", "loft"])))
        self.assertEqual(1, first_cut(EXAMPLE, ["cellar", "hall", "loft"]))
        self.assertEqual((0, ("loft",)), (first_cut(EXAMPLE, ("hall", "loft", "cellar")),
                                          cut_off(EXAMPLE, ("hall", "loft", "cellar"))))
        for order in (("loft", "hall", "cellar"), ("loft", "cellar", "hall"), ("cellar", "loft", "hall")):
            self.assertIsNone(first_cut(EXAMPLE, order))
            self.assertEqual((), cut_off(house=EXAMPLE, order=list(order)))
        self.assertEqual(3, dark_orders(WIDE))
        self.assertEqual(("hall", ), core_house(House.read("part hall\ndoor g out hall shut")).parts)

    def test_no_core(self):
        self.assertEqual(1, dark_orders(LONE))
        self.assertIsNone(first_cut(LONE, ()))
        self.assertEqual((), cut_off(LONE, []))
        self.assertEqual(("InvalidOrder", 0), raised(first_cut, LONE, ["a"]))

    def test_many(self):
        for house in [*some_houses(11, 60), *some_houses(12, 4, 6, 8)]:
            names = core_of(house)
            good = 0
            for order in itertools.permutations(names):
                cuts = [at for at in range(len(order)) if not is_held(house, order[at + 1:])]
                good += not cuts
                self.assertEqual(min(cuts, default=None), first_cut(house, order))
                left = order[cuts[0] + 1:] if cuts else ()
                held = held_within(house, left)
                self.assertEqual(tuple(part for part in house.parts if part in left and part not in held),
                                 cut_off(house, order))
            self.assertEqual(good, dark_orders(house))

    def test_errors(self):
        for call in (first_cut, cut_off):
            for value in VALUES:
                if not isinstance(value, (list, tuple)):
                    self.assertEqual(("InvalidOrder", 0), raised(call, EXAMPLE, value))
                self.assertEqual(("InvalidOrder", 0), raised(call, EXAMPLE, [value]))
                self.assertEqual(("InvalidOrder", 2), raised(call, EXAMPLE, ("loft", "hall", value, "cellar")))
            self.assertEqual(("InvalidOrder", 1), raised(call, EXAMPLE, ["loft", "loft", "zz"]))
            self.assertEqual(("InvalidOrder", 3), raised(call, EXAMPLE, ["loft", "hall", "cellar", "hall"]))
            self.assertEqual(("InvalidOrder", 1), raised(call, WIDE, ["loft", "x", "hall", "cellar"]))
            for many in range(3):
                self.assertEqual(("InvalidOrder", many), raised(call, EXAMPLE, ["loft", "cellar"][:many]))


if __name__ == "__main__":
    unittest.main()
