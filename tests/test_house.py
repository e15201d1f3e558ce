"""[2], [12], [13]: houses, their rows and their texts."""

import unittest

from helpers import HOUSE, KIND, VALUES, raised
from lightsout.guests import Kind
from lightsout.house import House, first_row, is_row

PARTS = ["hall", "cellar"]
DOORS = [("gate", "out", "hall", True), ("hatch", "hall", "cellar", False)]
CELLS = [("c", "hall", False), ("k", "cellar", True)]
TEXT = "part hall\npart cellar\ndoor gate out hall open\ndoor hatch hall cellar shut\ncell c hall\ncell k cellar kept"


def house(parts=PARTS, doors=DOORS, cells=CELLS):
    return House(parts, doors, cells)


def letters(first, many):
    return [first + chr(ord("a") + at) for at in range(many)]


class Made(unittest.TestCase):
    def test_attributes(self):
        made = house()
        self.assertEqual(("hall", "cellar"), made.parts)
        self.assertEqual(tuple(DOORS), made.doors)
        self.assertEqual(tuple(CELLS), made.cells)
        self.assertEqual(((-1, 0), (0, 1)), made.ends)
        self.assertEqual((0, 1), made.cell_parts)
        self.assertEqual((False, True), made.kept)

    def test_ends_stay_in_the_order_in_which_they_are_told(self):
        made = house(doors=[("x", "cellar", "out", True), ("y", "cellar", "hall", True)])
        self.assertEqual(((1, -1), (1, 0)), made.ends)

    def test_lists_and_tuples_serve_alike(self):
        lists = House(list(PARTS), [list(door) for door in DOORS], [list(cell) for cell in CELLS])
        tuples = House(tuple(PARTS), tuple(DOORS), tuple(CELLS))
        self.assertEqual(lists, tuples)
        for made in (lists, tuples):
            for row in (made.parts, made.doors, made.cells, made.ends, made.cell_parts, made.kept,
                        made.doors[0], made.cells[0], made.ends[0]):
                self.assertIs(tuple, type(row))

    def test_later_changes_of_an_argument_have_no_effect(self):
        parts, doors, cells = list(PARTS), [list(door) for door in DOORS], [list(cell) for cell in CELLS]
        made = House(parts, doors, cells)
        self.assertEqual((PARTS, [list(door) for door in DOORS]), (parts, doors))
        parts.append("loft")
        doors[0][3] = False
        doors.pop()
        cells[0][0] = "z"
        self.assertEqual(house(), made)
        self.assertEqual(TEXT, made.text())

    def test_by_names(self):
        self.assertEqual(house(), House(cells=CELLS, doors=DOORS, parts=PARTS))

    def test_equal(self):
        self.assertEqual(house(), house())
        self.assertNotEqual(house(), house(parts=["hall", "cellar", "loft"]))
        self.assertNotEqual(house(), house(parts=["cellar", "hall"]))
        self.assertNotEqual(house(), house(doors=DOORS[::-1]))
        self.assertNotEqual(house(), house(doors=[("gate", "out", "hall", False), DOORS[1]]))
        self.assertNotEqual(house(), house(doors=[("gate", "hall", "out", True), DOORS[1]]))
        self.assertNotEqual(house(), house(cells=[("c", "hall", True), CELLS[1]]))
        for value in VALUES:
            if value is not HOUSE:
                self.assertFalse(HOUSE == value)
                self.assertTrue(HOUSE != value)

    def test_not_iterable(self):
        for value in (HOUSE, KIND):
            with self.assertRaises(TypeError):
                iter(value)


class Wrong(unittest.TestCase):
    def check(self, at, **told):
        self.assertEqual(("InvalidHouse", at), raised(house, **told))

    def test_limits(self):
        parts, doors, cells = letters("p", 8), letters("d", 12), letters("c", 8)
        rows = [(name, "out", "pa", True) for name in doors]
        full = House(parts, rows, [(name, "pb", False) for name in cells])
        self.assertEqual((8, 12, 8), (len(full.parts), len(full.doors), len(full.cells)))
        self.check(8, parts=[*parts, "pz"], doors=[], cells=[])
        self.check(8 + 12, parts=parts, doors=[*rows, ("dz", "out", "pa", True)], cells=[])
        told = [(name, "pb", False) for name in [*cells, "cz"]]
        self.check(8 + 12 + 8, parts=parts, doors=rows, cells=told)
        self.check(8, parts=[*parts, "pz", "Q"], doors=None, cells=None)
        self.assertIsNone(raised(House, ["a"], [], []))

    def test_parts(self):
        for value in VALUES:
            if not isinstance(value, str) or value not in ("a", "p", "go"):
                self.check(0, parts=[value], doors=[], cells=[])
                self.check(1, parts=["x", value, value], doors=[], cells=[])
        self.check(1, parts=["x", "x", "Q"], doors=[], cells=[])
        self.check(2, parts=["x", "y", "x"], doors=[], cells=[])
        self.assertIsNone(raised(House, ["abcdefgh", "a", "outs", "ou"], [], []))
        for name in ("abcdefghi", "out", "Hall", "h1", "h-", " h", "\u00e4", "a\n", "\u0131", "h_"):
            self.check(0, parts=[name], doors=[], cells=[])

    def test_no_sequences(self):
        for value in VALUES:
            if not isinstance(value, (list, tuple)):
                self.check(0, parts=value, doors=value, cells=value)
                self.check(2, doors=value, cells=value)
                self.check(4, cells=value)
        for value in ((), []):
            self.check(0, parts=value)
            self.check(0, parts=value, doors=[], cells=[])
            self.assertIsNone(raised(house, doors=value, cells=value))

    def test_doors(self):
        wrong = [("gate", "out", "hall"), ("gate", "out", "hall", True, True), ("Gate", "out", "hall", True),
                 ("out", "out", "hall", True), ("gate", "out", "out", True), ("gate", "hall", "hall", True),
                 ("gate", "out", "loft", True), ("gate", "loft", "out", True), ("gate", "out", "hall", 1),
                 ("gate", "out", "hall", 0), ("gate", "out", "hall", None), ("gate", "out", "hall", "open"),
                 ("gate", None, "hall", True), ("gate", "out", 0, True), ("gate", ["out"], "hall", True),
                 (1, "out", "hall", True), ("hall", "out", "hall", True), ("cellar", "out", "hall", True),
                 ("gate", -1, "hall", True), ("gate", "out", ("hall",), True), "gate out hall open", ()]
        for door in [*wrong, *VALUES]:
            self.check(2, doors=[door, "x"], cells=None)
            self.check(3, doors=[("fine", "cellar", "out", True), door], cells=None)
        self.check(3, doors=[DOORS[0], DOORS[0]])
        self.check(4, doors=[DOORS[0], DOORS[1], ("gate", "hall", "cellar", True)])

    def test_cells(self):
        wrong = [("c", "hall"), ("c", "hall", True, True), ("C", "hall", True), ("c", "out", True), ("out", "hall", True),
                 ("c", "loft", True), ("c", "hall", 1), ("c", "hall", 0), ("c", "hall", None), ("c", 0, True),
                 ("c", ["hall"], True), (None, "hall", True), ("hall", "hall", True), ("gate", "hall", True),
                 ("hatch", "hall", False), "c hall", ()]
        for cell in [*wrong, *VALUES]:
            self.check(4, cells=[cell, "x"])
            self.check(5, cells=[("fine", "cellar", True), cell])
        self.check(5, cells=[CELLS[0], CELLS[0]])
        self.check(2, doors=[("c", "hall", "out", 1)], cells=[CELLS[0]])

    def test_the_first_wrong_one_counts(self):
        self.check(1, parts=["hall", "out"], doors=[None], cells=[None])
        self.check(3, doors=[DOORS[0], None], cells=[None])
        self.check(5, doors=DOORS, cells=[CELLS[0], None, None])


class Asked(unittest.TestCase):
    def test_numbers(self):
        made = house()
        self.assertEqual([-1, 0, 1], [made.number_of_part(name) for name in ("out", "hall", "cellar")])
        self.assertEqual([0, 1], [made.number_of_door(name) for name in ("gate", "hatch")])
        self.assertEqual([0, 1], [made.number_of_cell(name) for name in ("c", "k")])
        self.assertEqual(0, made.number_of_part(name="hall"))

    def test_no_name(self):
        made = House(["x"], [("y", "out", "x", True)], [("z", "x", True)])
        for value in VALUES:
            if value != "out":
                self.assertEqual(("NoName", value), raised(made.number_of_part, value))
            self.assertEqual(("NoName", value), raised(made.number_of_door, value))
            self.assertEqual(("NoName", value), raised(made.number_of_cell, value))
        for name in ("y", "z"):
            self.assertEqual(("NoName", name), raised(made.number_of_part, name))
        for name in ("x", "z"):
            self.assertEqual(("NoName", name), raised(made.number_of_door, name))
        for name in ("x", "y"):
            self.assertEqual(("NoName", name), raised(made.number_of_cell, name))

    def test_far_end(self):
        made = house()
        self.assertEqual([0, -1, None], [made.far_end(0, spot) for spot in (-1, 0, 1)])
        self.assertEqual([None, 1, 0], [made.far_end(1, spot) for spot in (-1, 0, 1)])
        self.assertEqual(1, made.far_end(door=1, spot=0))

    def test_doors_at_and_cells_in(self):
        made = house(doors=[*DOORS, ("back", "cellar", "out", True)], cells=[*CELLS, ("e", "hall", True)])
        self.assertEqual([(0, 2), (0, 1), (1, 2)], [made.doors_at(spot) for spot in (-1, 0, 1)])
        self.assertEqual([(), (0, 2), (1,)], [made.cells_in(spot) for spot in (-1, 0, 1)])

    def test_with_kept(self):
        made = house()
        self.assertEqual((True, False), made.with_kept(["c"]).kept)
        self.assertEqual((True, True), made.with_kept(("k", "c", "k")).kept)
        self.assertEqual((False, False), made.with_kept(()).kept)
        self.assertEqual((False, True), made.kept)
        self.assertEqual(house(), made)
        self.assertEqual(house(), made.with_kept(["k"]))
        self.assertEqual((DOORS[0], "hall"), (made.with_kept([]).doors[0], made.with_kept([]).parts[0]))
        self.assertEqual(("NoName", "gate"), raised(made.with_kept, ["c", "gate", "z"]))
        self.assertEqual(("NoName", None), raised(made.with_kept, names=[None]))


class Texts(unittest.TestCase):
    def test_text_and_back(self):
        self.assertEqual(TEXT, house().text())
        self.assertEqual(house(), House.read(TEXT))
        self.assertEqual(house(), House.read(text=TEXT))
        self.assertEqual("part a", House(["a"], [], []).text())
        self.assertEqual(TEXT, House.read(TEXT).text())

    def test_no_string(self):
        for value in VALUES:
            if not isinstance(value, str):
                self.assertEqual(("InvalidText", 0), raised(House.read, value))

    def test_forms(self):
        wrong = ["", " ", "part", "part a b", " part a", "part a b c", "Part a", "parts a", "door", "door a out b",
                 "door a out b Open", "door a out b open kept", "door a out b ", "door  a out b open",
                 "door a out b true", "cell", "cell a", "cell a hall Kept", "cell a hall kept kept", "cell a hall ",
                 "cell a  hall", "kind k", "plan", "part\ta", "door a out b kept", "cell a b open",
                 "gate a out b open", "part a out b shut", "room a hall kept", "part a hall kept", "cell a out b open"]
        for row in wrong:
            self.assertEqual(("InvalidText", 0), raised(House.read, row), row)
            self.assertEqual(("InvalidText", 1), raised(House.read, "part Q\n" + row + "\n"), row)
            self.assertEqual(("InvalidText", 6), raised(House.read, TEXT + "\n" + row), row)
        self.assertEqual(("InvalidText", 1), raised(House.read, "part hall\n"))

    def test_rows_that_stand_too_late(self):
        for ahead, row in (("door a out hall open", "part b"), ("cell c hall", "part b"),
                           ("cell c hall", "door a out hall open"), ("cell c hall kept", "door a out hall shut")):
            self.assertEqual(("InvalidText", 2), raised(House.read, "part hall\n" + ahead + "\n" + row))
            self.assertEqual(("InvalidText", 1), raised(House.read, ahead + "\n" + row))

    def test_text_ahead_of_house(self):
        self.assertEqual(("InvalidText", 2), raised(House.read, "part out\npart 1\nx"))
        self.assertEqual(("InvalidHouse", 0), raised(House.read, "part out\npart 1"))
        self.assertEqual(("InvalidHouse", 0), raised(House.read, "part "))
        self.assertEqual(("InvalidHouse", 1), raised(House.read, "part a\npart a"))
        self.assertEqual(("InvalidHouse", 1), raised(House.read, "part a\ndoor  out a open"))
        self.assertEqual(("InvalidHouse", 1), raised(House.read, "part a\ndoor d out b open"))
        self.assertEqual(("InvalidHouse", 1), raised(House.read, "part a\ncell c kept"))
        self.assertEqual(("InvalidHouse", 2), raised(House.read, "part a\ndoor d out a open\ncell d a"))
        self.assertEqual(("InvalidHouse", 0), raised(House.read, "door d out a open"))
        self.assertEqual(("InvalidHouse", 8), raised(House.read, "\n".join("part " + x for x in letters("p", 9))))


class Rows(unittest.TestCase):
    def test_first_row(self):
        self.assertEqual(((True, False), (True, True), (0, 0), (0, 0), (0, 0)), first_row(house()))
        self.assertEqual(((), (True,), (), (), ()), first_row(House(["a"], [], [])))
        self.assertEqual(first_row(house()), first_row(house=house()))

    def test_good_rows(self):
        made = house()
        for row in (first_row(made), ((False, False), (False, True), (2, 1), (0, 2), (4, 3)),
                    ((True, True), (True, False), (0, 0), (2, 2), (1, 2)), ((True, True),) * 2 + ((2, 2),) * 3):
            self.assertIs(True, is_row(made, row))
        self.assertIs(True, is_row(house=made, value=first_row(made)))
        self.assertTrue(is_row(House(["a"], [], []), ((), (False,), (), (), ())))

    def test_one_thing_bent(self):
        made = house()
        row = first_row(made)
        for at in range(5):
            bent = [list(row[at]), row[at][:1], row[at] + row[at][:1], (), None, "ab", row[at][0]]
            if at < 2:
                bent += [(1, False), (True, 0), (True, None), ("open", True)]
            else:
                bent += [(True, 0), (0, False), (-1, 0), (0, 3 if at < 4 else 5), (None, 0), ("0", 0), (0, (0,))]
            for part in bent:
                self.assertIs(False, is_row(made, row[:at] + (part,) + row[at + 1:]), part)
        for value in [list(row), row[:4], row + ((),), (row,), *VALUES]:
            self.assertIs(False, is_row(made, value))

    def test_limits_of_the_numbers(self):
        made = house()
        doors, lights, nothing, _, _ = first_row(made)
        self.assertTrue(is_row(made, (doors, lights, (2, 2), (2, 2), (4, 4))))
        self.assertFalse(is_row(made, (doors, lights, (3, 0), nothing, nothing)))
        self.assertFalse(is_row(made, (doors, lights, nothing, (0, 3), nothing)))
        self.assertFalse(is_row(made, (doors, lights, nothing, nothing, (5, 0))))


class Kinds(unittest.TestCase):
    def test_a_house_is_no_kind(self):
        self.assertFalse(Kind("p", [("rest",)]) == House(["p"], [], []))


if __name__ == "__main__":
    unittest.main()
