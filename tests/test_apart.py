"""[2], [25]: kinds that a house parts, and kinds that none does."""

import itertools
import random
import unittest

from helpers import raised
from lightsout.apart import alike_lot, house_apart, is_apart
from lightsout.guests import CELL_WORDS, DOOR_WORDS, Kind
from lightsout.house import House
from lightsout.programs import answers_of, is_one
from test_programs import EXAMPLE, OTHER

SMALL = House(["p"], [("d", "out", "p", True)], [("c", "p", False)])
ONE = Kind("a", [("go", "d"), ("go", "d"), ("see", "c")])
TWO = Kind("b", [("go", "d"), ("go", "d"), ("set", "c", 1)])
WORDS = [("go", "d"), ("go", "e"), ("shut", "d"), ("open", "e"), ("see", "c"), ("set", "c", 1), ("use", "c"), ("tell", "c")]


def some_kinds(seed, how_many):
    """Kinds with near relatives beside them: a row is another one."""
    chance = random.Random(seed)
    for _ in range(how_many):
        many = chance.randrange(1, 7)
        words = [*WORDS, ("go", "d"), ("when", chance.randrange(3), chance.randrange(many + 1)),
                 ("again", chance.randrange(many + 1)), ("rest",)]
        rows = [chance.choice([("go", "d"), *words])] + [chance.choice(words) for _ in range(many - 1)]
        other = list(rows)
        other[chance.randrange(many)] = chance.choice(words)
        yield Kind("k", rows), Kind("m", other)


def names_of(kinds, words):
    return sorted({row[1] for kind in kinds for row in kind.rows if row[0] in words})


def all_houses(kinds):
    """All houses of three parts with the names of some kinds."""
    doors, cells = names_of(kinds, DOOR_WORDS), names_of(kinds, CELL_WORDS)
    parts = ["pa", "pb", "pc"]
    for ends in itertools.product(itertools.combinations(["out", *parts], 2), repeat=len(doors)):
        for rooms in itertools.product(parts, repeat=len(cells)):
            yield House(parts, [(name, *pair, True) for name, pair in zip(doors, ends)],
                        [(name, part, False) for name, part in zip(cells, rooms)])


def done_at(kind, house, at, pocket, where):
    """The row at which the next deed stands that is done in a house, and the deed; by going row by row."""
    for _ in range(20):
        if at >= len(kind.rows):
            return at, ("rest",)
        row = kind.rows[at]
        if row[0] == "again":
            at = row[1]
        elif row[0] == "when":
            at = row[2] if pocket and pocket[1] == row[1] else at + 1
        elif row[0] == "use" and (not pocket or pocket[0] != row[1]):
            at += 1
        elif row[0] in DOOR_WORDS and where not in house.ends[house.number_of_door(row[1])]:
            return at, ("rest",)
        elif row[0] in CELL_WORDS and row[0] != "use" and where != house.cell_parts[house.number_of_cell(row[1])]:
            return at, ("rest",)
        else:
            return at, row
    return at, ("rest",)


def walk(kind, other, house):
    """All (row, row, pocket, where) that come in a house, and the least answers behind which deeds are unlike."""
    level, met = [((), (0, 0, None, -1))], {(0, 0, None, -1): ()}
    while level:
        after = []
        for answers, state in level:
            at, match, pocket, where = state
            at, deed = done_at(kind, house, at, pocket, where)
            match, also = done_at(other, house, match, pocket, where)
            if deed != also:
                return met, answers
            if deed[0] == "go":
                where = house.far_end(house.number_of_door(deed[1]), where)
            for answer in answers_of(deed):
                behind = (at + 1, match + 1, (deed[1], answer) if deed[0] == "see" else pocket, where)
                if behind not in met:
                    met[behind] = (*answers, answer)
                    after.append((met[behind], behind))
        level = after
    return met, None


class Apart(unittest.TestCase):
    def test_example(self):
        self.assertTrue(is_apart(EXAMPLE, OTHER, SMALL, ("done", 0, "done")))
        self.assertEqual((False, None), (is_one(ONE, TWO), house_apart(ONE, TWO)))
        self.assertIsNone(alike_lot(EXAMPLE, OTHER))

    def check(self, kind, other, found):
        house, answers = found
        self.assertIs(tuple, type(answers))
        self.assertTrue(1 <= len(house.parts) <= 3)
        self.assertEqual(names_of([kind, other], DOOR_WORDS), sorted(door[0] for door in house.doors))
        self.assertEqual(names_of([kind, other], CELL_WORDS), sorted(cell[0] for cell in house.cells))
        self.assertIs(True, is_apart(kind=kind, other=other, house=house, answers=answers))
        self.assertEqual(answers, walk_along(kind, other, house, answers))

    def test_by_all_houses(self):
        many = 0
        for kind, other in some_kinds(1, 120):
            found = house_apart(kind, other)
            lot = alike_lot(kind, other)
            self.assertEqual(found is None, lot is not None)
            parting = next((house for house in all_houses([kind, other]) if walk(kind, other, house)[1] is not None), None)
            self.assertEqual(parting is None, found is None, (kind.rows, other.rows))
            if found is not None:
                self.check(kind, other, found)
                many += 1
            else:
                self.check_lot(kind, other, lot)
            self.check_lot(kind, kind, alike_lot(kind, kind))
            self.assertEqual(found, house_apart(kind=kind, other=other))
        self.assertTrue(20 < many < 100)

    def check_lot(self, kind, other, lot):
        """What comes in each house comes in the lot with parts named anew, and each of the lot comes in some house."""
        self.assertEqual(sorted(set(lot), key=lambda row: (row[:2], row[2] or (), row[3:])), list(lot))
        self.assertIn((0, 0, None, -1, ((), (), 0)), lot)
        come = set()
        for house in all_houses([kind, other]):
            met, _ = walk(kind, other, house)
            for state in met:
                come.add((state[:3], state[3] == -1))
        self.assertEqual(come, {(state[:3], state[3] == -1) for state in lot})
        for at, match, pocket, where, (doors, cells, many) in lot:
            used = sorted({end for door in doors for end in door[1:]} | {part for _, part in cells} | {where, -1})
            self.assertEqual(list(range(-1, many)), used)
            self.assertTrue(all(one < two for _, one, two in doors) and many <= 3)
            self.assertEqual((sorted(doors), sorted(cells)), (list(doors), list(cells)))
            house = House(["pa", "pb", "pc"], [(name, ["pa", "pb", "pc", "out"][one], ["pa", "pb", "pc"][two], True)
                                               for name, one, two in self.filled(doors, kind, other, DOOR_WORDS, (-1, 0))],
                          [(name, ["pa", "pb", "pc"][part], False)
                           for name, part in self.filled(cells, kind, other, CELL_WORDS, (0,))])
            self.assertIn((at, match, pocket, where), walk(kind, other, house)[0])

    def filled(self, known, kind, other, words, rest):
        told = {row[0]: row[1:] for row in known}
        return [(name, *told.get(name, rest)) for name in names_of([kind, other], words)]

    def test_lots_by_hand(self):
        first = (0, 0, None, -1, ((), (), 0))
        known = ((("d", -1, 0),), (), 1)
        self.assertEqual((first, (1, 1, None, 0, known), (2, 2, None, -1, known)), alike_lot(ONE, TWO))
        self.assertEqual((first,), alike_lot(Kind("a", [("see", "c")]), Kind("b", [("tell", "c"), ("go", "d")])))
        self.assertEqual((first,), alike_lot(kind=Kind("a", [("rest",)]), other=Kind("b", [("see", "c")])))
        kind = Kind("a", [("go", "d"), ("go", "e")])
        at_d = (1, 1, None, 0, ((("d", -1, 0),), (), 1))
        back = (2, 2, None, -1, ((("d", -1, 0), ("e", -1, 0)), (), 1))
        on = (2, 2, None, 1, ((("d", -1, 0), ("e", 0, 1)), (), 2))
        self.assertEqual((first, at_d, back, on), alike_lot(kind, kind))

    def test_a_lot_with_cells_and_a_third_part(self):
        kind = Kind("a", [("go", "d"), ("go", "e"), ("go", "f"), ("see", "c")])
        lot = alike_lot(kind, kind)
        wheres = {state[3] for state in lot if state[0] == 3}
        self.assertEqual({-1, 0, 1, 2}, wheres)
        seen = {state[3:] for state in lot if state[:3] == (4, 4, ("c", 1))}
        doors = (("d", -1, 0), ("e", 0, 1), ("f", 1, 2))
        self.assertIn((2, (doors, (("c", 2),), 3)), seen)
        # From the yard the third door may lead to a new part, or to the known one.
        again = (("d", -1, 0), ("e", -1, 0))
        self.assertIn((1, ((*again, ("f", -1, 1)), (("c", 1),), 2)), seen)
        self.assertIn((0, ((*again, ("f", -1, 0)), (("c", 0),), 1)), seen)
        self.assertEqual(3, max(state[4][2] for state in lot))
        walk_in = Kind("b", [("go", "d"), ("shut", "d"), ("tell", "c"), ("see", "c")])
        known = ((("d", -1, 0),), (), 1)
        more = ((("d", -1, 0),), (("c", 0),), 1)
        self.assertEqual(((0, 0, None, -1, ((), (), 0)), (1, 1, None, 0, known), (2, 2, None, 0, known),
                          (3, 3, None, 0, more), *[(4, 4, ("c", value), 0, more) for value in range(3)]),
                         alike_lot(walk_in, walk_in))

    def test_a_use_is_done_anywhere(self):
        kind = Kind("a", [("go", "d"), ("see", "c"), ("go", "d"), ("use", "c"), ("go", "d")])
        lot = alike_lot(kind, kind)
        known = ((("d", -1, 0),), (("c", 0),), 1)
        self.assertEqual([(4, 4, ("c", value), -1, known) for value in range(3)], [row for row in lot if row[0] == 4])
        self.assertEqual([(5, 5, ("c", value), 0, known) for value in range(3)], [row for row in lot if row[0] == 5])
        for rows in ([*kind.rows[:3], ("tell", "c"), ("go", "d")], kind.rows[:3]):
            other = Kind("b", rows)
            self.check(kind, other, house_apart(kind, other))
            self.check(other, kind, house_apart(other, kind))
            self.assertTrue(is_apart(kind, other, SMALL, ("done", 1, "done")))
        self.assertEqual(house_apart(kind, Kind("b", [*kind.rows[:3], ("go", "d")])) is None, False)

    def test_no_more_than_three_parts(self):
        kind = Kind("a", [("go", "d"), ("go", "e"), ("go", "f"), ("go", "g"), ("see", "c")])
        lot = alike_lot(kind, kind)
        self.assertEqual(3, max(state[4][2] for state in lot))
        self.assertEqual({-1, 0, 1, 2}, {state[3] for state in lot if state[0] == 4})
        other = Kind("b", [*kind.rows[:4], ("tell", "c")])
        self.check(kind, other, house_apart(kind, other))

    def test_what_is_known_is_ascending(self):
        kind = Kind("a", [("go", "e"), ("shut", "d"), ("see", "k"), ("tell", "c"), ("go", "d")])
        doors = {state[4][0] for state in alike_lot(kind, kind) if state[0] == 2}
        self.assertEqual({(("d", -1, 0), ("e", -1, 0)), (("d", 0, 1), ("e", -1, 0))}, doors)
        self.assertEqual({(("c", 0), ("k", 0))}, {state[4][1] for state in alike_lot(kind, kind) if state[0] == 4})

    def test_names_of_cells_that_are_words(self):
        kind = Kind("a", [("go", "go"), ("see", "use"), ("tell", "use"), ("set", "use", 1)])
        known = ((("go", -1, 0),), (("use", 0),), 1)
        self.assertEqual([(4, 4, ("use", value), 0, known) for value in range(3)],
                         [row for row in alike_lot(kind, kind) if row[0] == 4])

    def test_is_apart(self):
        self.assertIs(False, is_apart(EXAMPLE, OTHER, SMALL, ("done", 0)))
        self.assertFalse(is_apart(EXAMPLE, OTHER, SMALL, ("done", 1, "done")))
        self.assertTrue(is_apart(EXAMPLE, OTHER, SMALL, ("done", 2, "done")))
        for answers in ((), ("done",), (0,), ("done", "done", "done"), ("done", 0, 0), ("done", 0, "done", "done"),
                        ("done", 0, "done", 0), ("done", 3, "done")):
            self.assertFalse(is_apart(EXAMPLE, OTHER, SMALL, answers), answers)
        self.assertFalse(is_apart(EXAMPLE, EXAMPLE, SMALL, ("done", 0, "done")))
        self.assertFalse(is_apart(ONE, TWO, SMALL, ("done", "done")))
        far = House(["p", "q"], [("d", "p", "q", True)], [("c", "p", False)])
        self.assertFalse(is_apart(EXAMPLE, OTHER, far, ("done", 0, "done")))
        self.assertFalse(is_apart(Kind("a", [("go", "d")]), Kind("b", [("shut", "d")]), far, ()))
        self.assertTrue(is_apart(Kind("a", [("go", "d")]), Kind("b", [("shut", "d")]), SMALL, ()))
        self.assertTrue(is_apart(Kind("a", [("rest",)]), Kind("b", [("shut", "d")]), SMALL, ()))

    def test_unlike_ones_that_no_house_parts(self):
        for rows, others in (([("see", "c")], [("set", "c", 0)]), ([("see", "c"), ("go", "d")], [("rest",)]),
                             ([("go", "d"), ("go", "d"), ("tell", "c")], [("go", "d"), ("go", "d"), ("wait", "e", 1)])):
            self.assertIsNone(house_apart(Kind("a", rows), Kind("b", others)))
        for rows, others in (([("go", "d"), ("see", "c")], [("go", "d"), ("set", "c", 0)]),
                             ([("go", "d")], [("go", "e")]), ([("go", "d")], [("rest",)]),
                             ([("go", "d"), ("go", "e"), ("see", "c")], [("go", "d"), ("go", "e"), ("tell", "c")])):
            self.check(Kind("a", rows), Kind("b", others), house_apart(Kind("a", rows), Kind("b", others)))

    def test_kinds_that_are_one_are_so_in_all_houses(self):
        ring, pair = Kind("k", [("go", "d"), ("again", 0)]), Kind("m", [("go", "d"), ("go", "d"), ("again", 0)])
        self.assertIsNone(house_apart(ring, pair))
        known = ((("d", -1, 0),), (), 1)
        self.assertEqual(((0, 0, None, -1, ((), (), 0)), (1, 1, None, 0, known), (1, 2, None, -1, known)),
                         alike_lot(ring, pair))

    def test_errors(self):
        names = ["ca", "cb", "cc", "cd", "ce", "cf", "cg", "ch", "ci"]
        eight = Kind("a", [("see", name) for name in names[:6]]), Kind("b", [("use", name) for name in names[2:8]])
        nine = Kind("a", [("see", name) for name in names[:5]]), Kind("b", [("use", name) for name in names[4:]])
        both = Kind("a", [("see", "ca"), ("go", "d")]), Kind("b", [("shut", "ca")])
        within = Kind("a", [("open", "ca"), ("tell", "ca")])
        mixed = Kind("a", [("see", name) for name in names[:5]]), Kind("b", [("go", "ca"), *[("use", x) for x in names[5:]]])
        for call in (house_apart, alike_lot):
            self.assertIsNone(raised(call, *eight))
            self.assertEqual(("InvalidSize", "cells"), raised(call, *nine))
            self.assertEqual(("InvalidSize", "cells"), raised(call, *mixed))
            self.assertEqual(("InvalidSize", "names"), raised(call, *both))
            self.assertEqual(("InvalidSize", "names"), raised(call, *both[::-1]))
            self.assertEqual(("InvalidSize", "names"), raised(call, within, EXAMPLE))
            self.assertEqual(("InvalidSize", "names"), raised(call, within, within))

    def test_names_of_parts_are_new(self):
        kind = Kind("k", [("go", "a"), ("go", "b"), ("see", "c"), ("tell", "d")])
        found = house_apart(kind, Kind("m", [("go", "a"), ("go", "b"), ("see", "c"), ("set", "d", 1)]))
        self.check(kind, Kind("m", [("go", "a"), ("go", "b"), ("see", "c"), ("set", "d", 1)]), found)


def walk_along(kind, other, house, answers):
    """The answers, if both do the same deeds along them and unlike ones behind."""
    at = match = 0
    pocket, where = None, -1
    for answer in [*answers, None]:
        at, deed = done_at(kind, house, at, pocket, where)
        match, also = done_at(other, house, match, pocket, where)
        if deed != also:
            return answers if answer is None else ("unlike ahead",)
        if answer not in answers_of(deed):
            return ("no answer", deed)
        if deed[0] == "go":
            where = house.far_end(house.number_of_door(deed[1]), where)
        if deed[0] == "see":
            pocket = (deed[1], answer)
        at, match = at + 1, match + 1
    return ("never unlike",)


if __name__ == "__main__":
    unittest.main()
