"""[2], [8], [18], [19]: kinds, places, and what each row does."""

import unittest

from helpers import HOUSE, KIND, VALUES, raised
from lightsout.guests import Kind, first_place, is_still, place_key, placed, step
from lightsout.house import House, first_row

ROWS = [("go", "d"), ("shut", "d"), ("open", "d"), ("see", "c"), ("when", 2, 6), ("again", 0)]
MORE = [("set", "c", 1), ("wait", "c", 2), ("tell", "c"), ("use", "c"), ("rest",)]
# Parts p (0), q (1); doors d (yard, p) open, e (p, q) shut; cells c in p, k in q.
OPEN, SHUT = (True, False), (False, False)
LIT = (True, True)
NONE = (0, 0)


def row(doors=OPEN, lights=LIT, values=NONE, saved=NONE, told=NONE):
    return doors, lights, values, saved, told


def done(told, place=(0, 0, 0, None), house_row=None, rows=None):
    """What a step at the row `told` gives, which is row 0 of kind 0, if not told else."""
    kind = Kind("k", rows or [told, ("rest",), ("rest",)])
    return step(HOUSE, [kind], house_row or row(), place)


class Kinds(unittest.TestCase):
    def test_made(self):
        for rows in (ROWS, MORE):
            kind = Kind("guest", rows)
            self.assertEqual(("guest", tuple(rows)), (kind.name, kind.rows))
            lists = [list(part) for part in rows]
            other = Kind(rows=lists, name="guest")
            self.assertEqual(kind, other)
            lists[0][0] = "x"
            lists.pop()
            self.assertEqual(tuple(rows), other.rows)
            self.assertEqual({tuple}, {type(part) for part in (other.rows, *other.rows)})

    def test_equal(self):
        self.assertEqual(Kind("k", [("go", "d")]), KIND)
        self.assertNotEqual(Kind("m", [("go", "d")]), KIND)
        self.assertNotEqual(Kind("k", [("go", "e")]), KIND)
        self.assertNotEqual(Kind("k", [("go", "d"), ("rest",)]), KIND)
        for value in VALUES:
            self.assertEqual(value is KIND, KIND == value)

    def test_names(self):
        for value in VALUES:
            if not isinstance(value, str) or value not in ("a", "p", "go"):
                self.assertEqual(("InvalidGuest", -1), raised(Kind, value, ROWS))
                self.assertEqual(("InvalidGuest", -1), raised(Kind, value, [("go", "out")]))

    def test_how_many_rows(self):
        for value in VALUES:
            if not isinstance(value, (list, tuple)) or not value:
                self.assertEqual(("InvalidGuest", -1), raised(Kind, "k", value))
        self.assertIsNone(raised(Kind, "k", [("rest",)]))
        self.assertIsNone(raised(Kind, "k", [("rest",)] * 6))
        self.assertEqual(("InvalidGuest", -1), raised(Kind, "k", [("rest",)] * 7))
        self.assertEqual(("InvalidGuest", -1), raised(Kind, "k", [None] * 7))

    def test_bent_rows(self):
        wrong = [(), ("rest", "d"), ("go",), ("go", "d", "d"), ("go", "out"), ("go", 1), ("go", "D"), ("go", None),
                 ("go", ["d"]), ("shut",), ("shut", "out"), ("open", 0), ("open", "d", 1), ("see",), ("see", "c", 0),
                 ("set", "c"), ("set", "c", 3), ("set", "c", -1), ("set", "c", True), ("set", "c", "1"),
                 ("set", 1, "c"), ("set", "c", 1, 1), ("set", "out", 1), ("wait", "c"), ("wait", "c", 3),
                 ("wait", "c", False), ("wait", "c", None), ("wait", 0, 0), ("tell",), ("tell", "c", 0), ("tell", 0),
                 ("use",), ("use", "c", 0), ("use", ()), ("when", 0), ("when", 3, 0), ("when", -1, 0),
                 ("when", 0, 4), ("when", 0, -1), ("when", True, 0), ("when", 0, True), ("when", 0, "0"),
                 ("when", "c", 0), ("when", 0, 0, 0), ("again",), ("again", 4), ("again", -1), ("again", False),
                 ("again", "d"), ("again", 0, 0), ("drain", "p"), ("off", "p"), ("come", "k"), ("Go", "d"),
                 (["go"], "d"), (None,), "rest", "go d", *VALUES]
        for bent in wrong:
            self.assertEqual(("InvalidGuest", 0), raised(Kind, "k", [bent, ("rest",), None]), bent)
            self.assertEqual(("InvalidGuest", 2), raised(Kind, "k", [("rest",), ("go", "d"), bent]), bent)

    def test_rows_to_the_number_of_rows(self):
        for told in (("when", 0, 2), ("again", 2), ("when", 2, 0), ("again", 0)):
            self.assertIsNone(raised(Kind, "k", [told, ("rest",)]))
        for told in (("when", 0, 3), ("again", 3)):
            self.assertEqual(("InvalidGuest", 1), raised(Kind, "k", [("rest",), told]))
        for many in range(1, 7):
            self.assertIsNone(raised(Kind, "k", [("again", many)] * many))
            self.assertEqual(("InvalidGuest", 0), raised(Kind, "k", [("again", many + 1)] * many))


class Texts(unittest.TestCase):
    def test_text_and_back(self):
        text = "kind guest\ngo d\nshut d\nopen d\nsee c\nwhen 2 6\nagain 0"
        self.assertEqual(text, Kind("guest", ROWS).text())
        self.assertEqual(Kind("guest", ROWS), Kind.read(text))
        text = "kind k\nset c 1\nwait c 2\ntell c\nuse c\nrest"
        self.assertEqual(text, Kind("k", MORE).text())
        self.assertEqual(Kind("k", MORE), Kind.read(text=text))
        self.assertEqual(((("set", "c", 1),), int), (Kind.read("kind k\nset c 1").rows, type(Kind.read(text).rows[0][2])))

    def test_no_such_text(self):
        for value in [*VALUES, "kind", "kinds k\nrest", " kind k\nrest", "Kind k\nrest", "kind\tk", "kind\nrest", "rest",
                      "part p\nkind k\nrest"]:
            self.assertEqual(("InvalidText", 0), raised(Kind.read, value))

    def test_wrong_kinds(self):
        for text in ("kind ", "kind k", "kind K\nrest", "kind out\nrest", "kind k m\nrest", "kind  k\nrest",
                     "kind 1\nrest", "kind k" + "\nrest" * 7, "kind k" + "\nx" * 7, "kind k \nrest", "kind \nx"):
            self.assertEqual(("InvalidGuest", -1), raised(Kind.read, text), text)
        for text in ("", " ", "go", "go d ", "go  d", " go d", "set c 3", "set c 10", "set c", "set c -1", "set 1 c",
                     "go 1", "see 1", "1", "again 02", "again x", "when 1 x", "set c +1", "rest ", "kind m", "plan"):
            self.assertEqual(("InvalidGuest", 0), raised(Kind.read, "kind k\n" + text + "\nx"), text)
            self.assertEqual(("InvalidGuest", 2), raised(Kind.read, "kind k\nrest\nrest\n" + text), text)
        self.assertEqual(("InvalidGuest", 1), raised(Kind.read, "kind k\nrest\n"))


class Places(unittest.TestCase):
    def test_first_place(self):
        self.assertEqual((0, 0, -1, None), first_place(0))
        self.assertEqual((3, 0, -1, None), first_place(number=3))

    def test_place_key(self):
        self.assertEqual((2, 1, 0, (-1, -1, False)), place_key((2, 1, 0, None)))
        self.assertEqual((2, 1, -1, (0, 2, True)), place_key(place=(2, 1, -1, (0, 2, True))))

    def test_placed(self):
        row = ((0, 0, -1, None), (0, 0, -1, (0, 0, False)), (0, 0, -1, (0, 0, True)), (0, 0, -1, (0, 1, False)),
               (0, 0, -1, (1, 0, False)), (0, 0, 0, None), (0, 1, -1, None), (1, 0, -1, None))
        self.assertEqual(row, placed(row[::-1]))
        self.assertEqual((row[0], row[0], row[2], row[2]), placed([row[2], row[0], row[2], row[0]]))
        self.assertEqual((), placed(places=[]))
        told = [row[1], row[0]]
        placed(told)
        self.assertEqual([row[1], row[0]], told)


class Steps(unittest.TestCase):
    def test_go(self):
        self.assertEqual((row(), (0, 1, 0, None), None), done(("go", "d"), (0, 0, -1, None)))
        self.assertEqual((row(), (0, 1, -1, (0, 1, True)), None), done(("go", "d"), (0, 0, 0, (0, 1, True))))
        both = row((True, True))
        self.assertEqual((both, (0, 1, 1, None), None), done(("go", "e"), (0, 0, 0, None), both))
        self.assertEqual((both, (0, 1, 0, None), None), done(("go", "e"), (0, 0, 1, None), both))

    def test_go_shut_or_elsewhere(self):
        self.assertIsNone(done(("go", "e"), (0, 0, 0, None)))
        self.assertIsNone(done(("go", "d"), (0, 0, -1, None), row(SHUT)))
        self.assertIsNone(done(("go", "d"), (0, 0, 1, None)))
        self.assertIsNone(done(("go", "e"), (0, 0, -1, None), row((True, True))))

    def test_go_into_the_dark(self):
        dark = row(lights=(False, True))
        self.assertEqual((dark, (0, 1, 0, (1, 2, False)), ("dark", "p")), done(("go", "d"), (0, 0, -1, (1, 2, False)), dark))
        self.assertEqual((dark, (0, 1, -1, None), None), done(("go", "d"), (0, 0, 0, None), dark))
        dark = row((True, True), (True, False))
        self.assertEqual((dark, (0, 1, 1, None), ("dark", "q")), done(("go", "e"), (0, 0, 0, None), dark))
        self.assertEqual((dark, (0, 1, 0, None), None), done(("go", "e"), (0, 0, 1, None), dark))
        self.assertIsNone(done(("go", "d"), (0, 0, -1, None), row(SHUT, (False, True))))
        # The yard is never dark, whatever the lights are.
        for lights in ((False, False), (True, False)):
            self.assertIsNone(done(("go", "d"), (0, 0, 0, None), row(lights=lights))[2])

    def test_shut_and_open(self):
        for place in (-1, 0):
            behind = (0, 1, place, None)
            self.assertEqual((row(SHUT), behind, None), done(("shut", "d"), (0, 0, place, None)))
            self.assertEqual((row(SHUT), behind, None), done(("shut", "d"), (0, 0, place, None), row(SHUT)))
            self.assertEqual((row(), behind, None), done(("open", "d"), (0, 0, place, None), row(SHUT)))
            self.assertEqual((row(), behind, None), done(("open", "d"), (0, 0, place, None)))
        self.assertEqual((row((True, True)), (0, 1, 1, None), None), done(("open", "e"), (0, 0, 1, None)))
        for word in ("shut", "open"):
            self.assertIsNone(done((word, "d"), (0, 0, 1, None)))
            self.assertIsNone(done((word, "e"), (0, 0, -1, None)))

    def test_see(self):
        for told in (0, 1, 2):
            seen = row(values=(2, 1), told=(told, 3))
            self.assertEqual((seen, (0, 1, 0, (0, 2, False)), None), done(("see", "c"), (0, 0, 0, (1, 1, True)), seen))
        for told in (3, 4):
            lost = row(values=(1, 2), told=(told, 0))
            self.assertEqual((lost, (0, 1, 0, (0, 1, False)), ("lost", "c")), done(("see", "c"), house_row=lost))
        self.assertIsNone(done(("see", "k")))
        self.assertIsNone(done(("see", "c"), (0, 0, -1, None)))
        dark = row(lights=(False, True), values=(1, 0))
        self.assertEqual((dark, (0, 1, 0, (0, 1, False)), None), done(("see", "c"), house_row=dark))

    def test_set(self):
        for told, value, behind in [(told, value, value if value and told in (value, value + 2) else 0)
                                    for told in range(5) for value in range(3)]:
            ahead = row(values=(2, 1), saved=(1, 2), told=(told, 4))
            after = row(values=(value, 1), saved=(1, 2), told=(behind, 4))
            self.assertEqual((after, (0, 1, 0, (0, 1, True)), None),
                             done(("set", "c", value), (0, 0, 0, (0, 1, True)), ahead), (told, value))
        self.assertEqual(row(told=(1, 0), values=(1, 0)), done(("set", "c", 1), house_row=row(told=(3, 0)))[0])
        self.assertEqual(row(told=(0, 0), values=(1, 0)), done(("set", "c", 1), house_row=row(told=(4, 0)))[0])
        self.assertEqual(row(told=(0, 0)), done(("set", "c", 0), house_row=row(told=(3, 0)))[0])
        self.assertIsNone(done(("set", "k", 1)))
        self.assertIsNone(done(("set", "c", 1), (0, 0, -1, None)))

    def test_wait(self):
        for value in range(3):
            for other in range(3):
                ahead = row(values=(value, 2 - value))
                behind = (ahead, (0, 1, 0, None), None) if value == other else None
                self.assertEqual(behind, done(("wait", "c", other), house_row=ahead))
        self.assertIsNone(done(("wait", "k", 0)))
        self.assertIsNone(done(("wait", "c", 0), (0, 0, 1, None)))

    def test_tell(self):
        for value in range(3):
            for told in range(5):
                ahead = row(values=(value, 1), told=(told, 2))
                self.assertEqual((row(values=(value, 1), told=(value, 2)), (0, 1, 0, None), None),
                                 done(("tell", "c"), house_row=ahead))
        self.assertIsNone(done(("tell", "k")))
        self.assertIsNone(done(("tell", "c"), (0, 0, 1, None)))

    def test_use(self):
        for where in (-1, 0, 1):
            for pocket in (None, (0, 0, False), (1, 1, True), (1, 2, False), (0, 0, True), (0, 2, True)):
                harm = ("stale", "c") if pocket in ((0, 0, True), (0, 2, True)) else None
                self.assertEqual((row(), (0, 1, where, pocket), harm), done(("use", "c"), (0, 0, where, pocket)))
        self.assertEqual(("stale", "k"), done(("use", "k"), (0, 0, 0, (1, 0, True)))[2])

    def test_when_and_again(self):
        for pocket in (None, (0, 0, False), (1, 1, True), (0, 2, False)):
            for value in range(3):
                at = 2 if pocket is not None and pocket[1] == value else 1
                self.assertEqual((row(), (0, at, 1, pocket), None), done(("when", value, 2), (0, 0, 1, pocket)))
        for at in range(4):
            self.assertEqual((row(), (0, at, 1, (0, 1, True)), None), done(("again", at), (0, 0, 1, (0, 1, True))))

    def test_rest_and_behind_the_last_row(self):
        self.assertIsNone(done(("rest",)))
        self.assertIsNone(done(("go", "d"), (0, 3, -1, None)))
        self.assertEqual((row(), (0, 3, 0, None), None),
                         done(None, (0, 2, -1, None), rows=[("rest",), ("rest",), ("go", "d")]))

    def test_the_kind_of_the_place_counts(self):
        kinds = (Kind("a", [("rest",)]), Kind("b", [("go", "d")]))
        self.assertIsNone(step(HOUSE, kinds, row(), (0, 0, -1, None)))
        self.assertEqual((row(), (1, 1, 0, None), None), step(HOUSE, kinds, row(), (1, 0, -1, None)))
        self.assertEqual(step(HOUSE, kinds, row(), (1, 0, -1, None)),
                         step(place=(1, 0, -1, None), row=row(), kinds=list(kinds), house=HOUSE))

    def test_still(self):
        rows = [("go", "d"), ("shut", "e"), ("open", "e"), ("see", "c"), ("set", "k", 1), ("wait", "c", 1)]
        more = [("tell", "k"), ("use", "c"), ("when", 1, 1), ("again", 0), ("rest",)]
        kinds = (Kind("a", rows), Kind("b", more))
        moving = {(0, 0): (-1, 0), (0, 1): (0, 1), (0, 2): (0, 1), (0, 3): (0,), (0, 4): (1,), (0, 5): (0,), (0, 6): (),
                  (1, 0): (1,), (1, 1): (-1, 0, 1), (1, 2): (-1, 0, 1), (1, 3): (-1, 0, 1), (1, 4): (), (1, 5): ()}
        for (number, at), spots in moving.items():
            for where in (-1, 0, 1):
                place = (number, at, where, (0, 0, True))
                self.assertIs(where not in spots, is_still(HOUSE, kinds, place), place)
        self.assertIs(True, is_still(house=HOUSE, kinds=kinds, place=(1, 5, -1, None)))

    def test_still_is_no_step_in_any_house_row(self):
        house = House(["p"], [("d", "out", "p", True)], [("c", "p", False)])
        kind = Kind("k", [("go", "d"), ("wait", "c", 1), ("see", "c"), ("use", "c"), ("tell", "c"), ("rest",)])
        house_rows = [((opened,), (True,), (value,), (0,), (0,)) for opened in (True, False) for value in range(3)]
        for at in range(7):
            for where in (-1, 0):
                steps = [step(house, [kind], told, (0, at, where, None)) for told in house_rows]
                self.assertEqual(not any(steps), is_still(house, [kind], (0, at, where, None)))

    def test_names_that_are_words(self):
        house = House(["p"], [("go", "out", "p", True), ("open", "out", "p", True)], [("rest", "p", False), ("see", "p", True)])
        rows = [("go", "go"), ("shut", "open"), ("see", "rest"), ("go", "go"), ("use", "rest"), ("tell", "see")]
        kinds = [Kind("kind", rows)]
        self.assertEqual(kinds[0], Kind.read(kinds[0].text()))
        house_row, place = first_row(house), first_place(0)
        for _ in range(5):
            house_row, place, harm = step(house, kinds, house_row, place)
            self.assertIsNone(harm)
        self.assertEqual(((True, False), (0, 5, -1, (0, 0, False))), (house_row[0], place))
        self.assertTrue(is_still(house, kinds, place))

    def test_nothing_that_is_passed_changes(self):
        kinds = [Kind("k", [("set", "c", 1)])]
        place = (0, 0, 0, None)
        ahead = first_row(HOUSE)
        one = step(HOUSE, kinds, ahead, place)
        self.assertEqual(one, step(HOUSE, kinds, ahead, place))
        self.assertEqual((first_row(HOUSE), [Kind("k", [("set", "c", 1)])]), (ahead, kinds))
        self.assertNotEqual(ahead, one[0])


if __name__ == "__main__":
    unittest.main()
