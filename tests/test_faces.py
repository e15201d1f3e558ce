"""[2], [79] to [82]: inner houses and their faces."""

import itertools
import random
import unittest

from helpers import VALUES, raised
from lightsout.faces import Face, Inner, face, least
from lightsout.guests import Kind, first_place, placed, step
from lightsout.house import House, first_row
from lightsout.plans import deed

HOUSE = House(["r"], [("a", "out", "r", True), ("b", "out", "r", True)], [("c", "r", False)])
WIDE = House(["r", "s"], [("a", "out", "r", True), ("m", "r", "s", True), ("b", "s", "out", True)], [("c", "s", False)])
THROUGH = Kind("k", [("go", "a"), ("go", "b")])
INNER = Inner(HOUSE, THROUGH, "a", "b")
ROW = first_row(HOUSE)
IN = (0, 1, 0, None)


def of(rows, house=HOUSE):
    return Inner(house, Kind("k", rows), "a", "b")


def row(doors=(True, True), light=True, value=0, saved=0, told=0):
    return doors, (light,), (value,), (saved,), (told,)


def next_by_hand(inner, standing, deeds, turns):
    """The moves of [80], from what `step` and `deed` say."""
    house, kinds = inner.house, [inner.kind]
    ahead, places = standing
    found = []
    for place in [first_place(0), *places]:
        told = step(house, kinds, ahead, place)
        if told is None:
            continue
        behind, to, harm = told
        if harm:
            found.append((f"{harm[0]} {harm[1]}", None))
            continue
        label = "out" if to[2] == -1 and inner.kind.rows[place[1]] == ("go", inner.gate_out) else ""
        come = {to} if to[2] != -1 else set()
        found.append((label, (behind, placed({*places} | come))))
        if place[2] != -1:
            found.append((label, (behind, placed(({*places} - {place}) | come))))
    for told in deeds:
        done = deed(house, ahead, places, told)
        if done and done[2]:
            found.append((f"{done[2][0]} {done[2][1]}", None))
        elif done:
            found.append((f"hand {told[0]} {told[1]}", (done[0], placed(set(done[1])))))
    if turns:
        at = house.number_of_door(inner.gate_out)
        for word in ("open", "shut"):
            doors = list(ahead[0])
            doors[at] = word == "open"
            found.append((f"turn {word}", ((tuple(doors), *ahead[1:]), places)))
    rows = []
    for pair in sorted(found, key=lambda pair: pair[0]):
        if pair not in rows and pair != ("", standing):
            rows.append(pair)
    return tuple(rows)


def shown_by_hand(states, moves):
    """All triples (state, label, state) that are shown."""
    hidden = {(one, one) for one in range(states)}
    while True:
        more = {(one, to) for one, mid in hidden for there, label, to in moves if there == mid and label == ""}
        if more <= hidden:
            break
        hidden |= more
    triples = {(one, "", other) for one, other in hidden}
    for here, label, there in moves:
        if label:
            triples |= {(one, label, other) for one, mid in hidden if mid == here for to, other in hidden if to == there}
    return triples


def alike_by_hand(states, moves):
    """The greatest lot of pairs of alike states."""
    shown = shown_by_hand(states, moves)
    pairs = {(one, other) for one in range(states) for other in range(states)}

    def serves(one, other):
        return all(any((to, match) in pairs for there, word, match in shown if there == other and word == label)
                   for here, label, to in shown if here == one)

    while True:
        left = {(one, other) for one, other in pairs if serves(one, other) and serves(other, one)}
        left = {(one, other) for one, other in left if (other, one) in left}
        if left == pairs:
            return shown, pairs
        pairs = left


def face_by_hand(states, moves):
    shown, pairs = alike_by_hand(states, moves)
    firsts = sorted({min(other for other in range(states) if (one, other) in pairs) for one in range(states)})
    number = {one: firsts.index(min(other for other in range(states) if (one, other) in pairs)) for one in range(states)}
    triples = {(number[one], label, number[other]) for one, label, other in shown}
    return len(firsts), tuple(sorted(told for told in triples if told[1] or told[0] != told[2]))


def machine_of(inner, deeds, turns):
    """All standings that come, by number, and their moves."""
    met, moves = [inner.start()], []
    for standing in met:
        for label, behind in () if standing is None else inner.comes_next(standing, deeds, turns):
            if behind not in met:
                met.append(behind)
            moves.append((met.index(standing), label, met.index(behind)))
    return len(met), moves


def some_inners(seed, how_many):
    chance = random.Random(seed)
    words = [("see", "c"), ("set", "c", 1), ("tell", "c"), ("use", "c"), ("shut", "b"), ("shut", "a"), ("open", "a"),
             ("wait", "c", 1), ("when", 1, 2), ("again", 1), ("rest",)]
    while how_many:
        rows = [("go", "a"), *[chance.choice(words) for _ in range(chance.randrange(3))]]
        rows.append(chance.choice([("go", "b"), ("go", "a"), ("see", "c")]))
        house = chance.choice([HOUSE, WIDE])
        if house is WIDE:
            rows.insert(1, ("go", "m"))
        try:
            yield Inner(house, Kind("k", rows[:5]), "a", "b")
        except Exception:
            continue
        how_many -= 1


class Inners(unittest.TestCase):
    def test_made(self):
        self.assertEqual((HOUSE, THROUGH, "a", "b"), (INNER.house, INNER.kind, INNER.gate_in, INNER.gate_out))
        other = Inner(gate_out="a", gate_in="b", kind=Kind("k", [("go", "b")]), house=HOUSE)
        self.assertEqual(("b", "a"), (other.gate_in, other.gate_out))
        with self.assertRaises(TypeError):
            iter(INNER)

    def test_values(self):
        three = House(["r", "s", "t"], WIDE.doors, [])
        for value in VALUES:
            if not isinstance(value, House):
                self.assertEqual(("InvalidSize", "house"), raised(Inner, value, value, value, value))
            if not isinstance(value, Kind):
                self.assertEqual(("InvalidSize", "kind"), raised(Inner, three, value, value, value))
            self.assertEqual(("InvalidSize", "parts"), raised(Inner, three, THROUGH, value, value))
            if value != "a":
                self.assertEqual(("NoName", value), raised(Inner, HOUSE, THROUGH, value, "zz"))
                self.assertEqual(("NoName", value), raised(Inner, HOUSE, THROUGH, "a", value))
                self.assertEqual(("NoName", value), raised(Inner, HOUSE, THROUGH, "b", value))
        self.assertEqual(("NoName", "r"), raised(Inner, HOUSE, THROUGH, "r", "c"))
        self.assertEqual(("NoName", "c"), raised(Inner, HOUSE, THROUGH, "a", "c"))
        self.assertEqual(("InvalidSize", "kind"), raised(Inner, three, None, None, None))

    def test_gates(self):
        bad = Kind("k", [("go", "zz")])
        self.assertEqual(("InvalidHouse", 0), raised(Inner, HOUSE, bad, "a", "a"))
        self.assertEqual(("InvalidHouse", 1), raised(Inner, HOUSE, bad, "b", "b"))
        self.assertEqual(("InvalidHouse", 1), raised(Inner, WIDE, bad, "m", "m"))
        self.assertEqual(("InvalidHouse", 1), raised(Inner, WIDE, bad, "a", "m"))
        self.assertEqual(("InvalidHouse", 0), raised(Inner, WIDE, bad, "m", "b"))
        self.assertEqual(("InvalidHouse", 0), raised(Inner, WIDE, bad, "b", "m"))
        more = House(["r", "s"], [*WIDE.doors, ("n", "r", "out", False)], [])
        self.assertEqual(("InvalidHouse", 3), raised(Inner, more, bad, "a", "b"))
        self.assertEqual(("InvalidHouse", 2), raised(Inner, more, bad, "a", "n"))
        self.assertEqual(("InvalidHouse", 1), raised(Inner, more, bad, "m", "a"))
        lone = House(["r", "s"], [("a", "r", "s", True), ("b", "out", "s", True)], [])
        self.assertEqual(("InvalidHouse", 0), raised(Inner, lone, bad, "a", "b"))

    def test_names_of_rows(self):
        for word in ("go", "shut", "open"):
            self.assertEqual(("NoName", "zz"), raised(of, [("go", "a"), (word, "zz"), ("again", 0)]))
            self.assertEqual(("NoName", "c"), raised(of, [(word, "c"), ("go", "zz")]))
        for told in (("see", "zz"), ("set", "zz", 1), ("wait", "zz", 1), ("tell", "zz"), ("use", "zz")):
            self.assertEqual(("NoName", "zz"), raised(of, [("go", "a"), told, ("again", 0)]))
        self.assertEqual(("InvalidGuest", 0), raised(of, [("go", "b"), ("go", "zz")]))
        self.assertEqual(("InvalidGuest", 1), raised(of, [("go", "a"), ("again", 0), ("see", "zz")]))
        self.assertEqual(("NoName", "zz"), raised(of, [("go", "a"), ("see", "zz"), ("again", 0)]))

    def test_rows(self):
        for first in (("go", "b"), ("shut", "a"), ("open", "a"), ("see", "c"), ("rest",), ("again", 1), ("again", 0)):
            self.assertEqual(("InvalidGuest", 0), raised(of, [first, ("go", "b")]), first)
        for jump in (("again", 0), ("when", 0, 0), ("when", 2, 0)):
            self.assertEqual(("InvalidGuest", 2), raised(of, [("go", "a"), ("see", "c"), jump, ("again", 0)]), jump)
        for jump in (("again", 1), ("when", 0, 1), ("when", 0, 4)):
            self.assertIsNone(raised(of, [("go", "a"), ("see", "c"), jump, ("rest",)]))
        for gate in ("a", "b"):
            self.assertEqual(("InvalidGuest", 1), raised(of, [("go", "a"), ("go", gate), ("see", "c")]))
            self.assertEqual(("InvalidGuest", 2), raised(of, [("go", "a"), ("see", "c"), ("go", gate), ("again", 1)]))
            self.assertEqual(("InvalidGuest", 1), raised(of, [("go", "a"), ("go", gate), ("go", gate)]))
            self.assertIsNone(raised(of, [("go", "a"), ("go", gate), ("rest",), ("see", "c")]))
            self.assertIsNone(raised(of, [("go", "a"), ("see", "c"), ("go", gate)]))
        self.assertIsNone(raised(of, [("go", "a"), ("go", "m"), ("see", "c"), ("shut", "b"), ("go", "b")], WIDE))
        self.assertIsNone(raised(of, [("go", "a"), ("see", "c")]))
        self.assertIsNone(raised(of, [("go", "a")]))


class Next(unittest.TestCase):
    def test_start(self):
        self.assertEqual((ROW, ()), INNER.start())
        self.assertEqual((first_row(WIDE), ()), of([("go", "a")], WIDE).start())

    def test_a_comer(self):
        self.assertEqual((("", (ROW, (IN,))),), INNER.comes_next((ROW, ()), [], False))
        self.assertEqual((), INNER.comes_next((row((False, True)), ()), [], False))
        self.assertEqual((("dark r", None),), INNER.comes_next((row(light=False), ()), (), turns=False))

    def test_going_out(self):
        self.assertEqual((("out", (ROW, (IN,))), ("out", (ROW, ()))), INNER.comes_next((ROW, (IN,)), [], False))
        back = of([("go", "a"), ("go", "a")])
        self.assertEqual((("", (ROW, ())),), back.comes_next((ROW, (IN,)), [], False))
        self.assertEqual((), INNER.comes_next((row((True, False)), (IN,)), [], False))

    def test_steps_within(self):
        inner = of([("go", "a"), ("see", "c"), ("set", "c", 1), ("again", 3)])
        seen = (0, 2, 0, (0, 0, False))
        self.assertEqual((("", (ROW, (IN, seen))), ("", (ROW, (seen,)))), inner.comes_next((ROW, (IN,)), [], False))
        last = (0, 3, 0, (0, 0, False))
        self.assertEqual((("", (ROW, (IN, seen))), ("", (row(value=1), (seen, last))), ("", (row(value=1), (last,)))),
                         inner.comes_next((ROW, (seen,)), [], False))
        self.assertEqual((("", (ROW, (IN, last))),), inner.comes_next((ROW, (last,)), [], False))
        # A comer, and the `see` of one of those at IN, change nothing here.
        self.assertEqual((("", (ROW, (seen,))), ("", (row(value=1), (IN, seen, last))), ("", (row(value=1), (IN, last)))),
                         inner.comes_next((ROW, (IN, seen)), [], False))

    def test_deeds(self):
        deeds = [["drain", "r"], ("off", "r"), ("shut", "a"), ("on", "r"), ("save", "c")]
        self.assertEqual((("", (ROW, (IN,))), ("hand drain r", (ROW, ())), ("hand off r", (row(light=False), ())),
                          ("hand on r", (ROW, ())), ("hand save c", (ROW, ())), ("hand shut a", (row((False, True)), ()))),
                         INNER.comes_next((ROW, ()), deeds, False))
        self.assertEqual((("hand on r", (ROW, (IN,))), ("hand save c", (ROW, (IN,))),
                          ("hand shut a", (row((False, True)), (IN,))), ("inside r", None), ("out", (ROW, (IN,))),
                          ("out", (ROW, ()))), INNER.comes_next((ROW, (IN,)), deeds, False))
        self.assertEqual((("hand drain r", (row((False, True)), ())),),
                         INNER.comes_next((row((False, True)), ()), [("drain", "r"), ("drain", "r")], False))

    def test_pockets_that_get_one(self):
        inner = of([("go", "a"), ("go", "m"), ("see", "c"), ("go", "m"), ("again", 4)], WIDE)
        old, new = (0, 4, 0, (0, 0, True)), (0, 4, 0, (0, 0, False))
        start = first_row(WIDE)
        dark = (start[0], (True, False), *start[2:])
        self.assertEqual((("", (start, ((0, 1, 0, None), new, old))), ("hand off s", (dark, (old,)))),
                         inner.comes_next((start, (new, old)), [("off", "s")], False))

    def test_turns(self):
        self.assertEqual((("turn open", (row((False, True)), ())), ("turn shut", (row((False, False)), ()))),
                         INNER.comes_next((row((False, True)), ()), [], True))
        self.assertEqual((("turn open", (row((False, True)), (IN,))), ("turn shut", (row((False, False)), (IN,)))),
                         INNER.comes_next(turns=True, deeds=(), standing=(row((False, False)), (IN,))))

    def test_harms(self):
        inner = of([("go", "a"), ("see", "c"), ("use", "c"), ("go", "b")])
        old = (0, 2, 0, (0, 1, True))
        shut = row((False, False), told=3)
        self.assertEqual((("lost c", None), ("stale c", None)), inner.comes_next((shut, (IN, old)), [], False))
        dark = row((True, False), light=False)
        self.assertEqual((("dark r", None), ("hand on r", (row((True, False)), (old,))), ("stale c", None)),
                         inner.comes_next((dark, (old,)), [("on", "r")], False))
        self.assertEqual((("stale c", None),), inner.comes_next((shut, (old, (0, 2, 0, (0, 2, True)))), [], False))
        within = of([("go", "a"), ("go", "m"), ("go", "b")], WIDE)
        start = first_row(WIDE)
        dark = ((False, *start[0][1:]), (True, False), *start[2:])
        self.assertEqual((("dark s", None),), within.comes_next((dark, (IN,)), [], False))

    def test_errors_of_the_deeds(self):
        for value in VALUES:
            if not isinstance(value, (list, tuple)):
                self.assertEqual(("InvalidPlan", -1), raised(face, INNER, value, False))
            self.assertEqual(("InvalidPlan", 1), raised(face, INNER, [("off", "zz"), value], False))

    def test_by_hand(self):
        deeds = [("drain", "r"), ("off", "r"), ("on", "r")]
        for inner in some_inners(1, 25):
            for some, turns in ((deeds, True), (deeds[1:], False), ([], True)):
                met = [inner.start()]
                for standing in met:
                    if standing is None or len(met) > 60:
                        continue
                    moves = inner.comes_next(standing, some, turns)
                    self.assertEqual(next_by_hand(inner, standing, some, turns), moves)
                    met.extend(dict.fromkeys(behind for _, behind in moves if behind not in met))


class Faces(unittest.TestCase):
    def test_example(self):
        rows = [[("go", "a"), ("go", "b")], [("go", "a"), ("see", "c"), ("go", "b")], [("go", "a"), ("go", "a")]]
        one, two, three = [face(of(some), [("drain", "r")], False) for some in rows]
        triples = ((0, "", 1), (0, "hand drain r", 0), (0, "hand drain r", 1), (0, "out", 0), (0, "out", 1), (1, "out", 0),
                   (1, "out", 1))
        self.assertEqual((2, triples), (one.states, one.triples))
        self.assertTrue(one == two)
        self.assertEqual('0 "hand drain r" 0\n', three.text())
        self.assertFalse(one == three)
        self.assertEqual('0 "" 1\n0 "hand drain r" 0\n', one.text()[:26])

    def test_the_end(self):
        shown = face(of([("go", "a")]), [("off", "r")], False)
        # The first standing, the one with somebody within, the dark one, and the end, which shows nothing.
        self.assertEqual((4, ((0, "", 1), (0, "hand off r", 2), (0, "inside r", 3), (1, "inside r", 3),
                              (2, "dark r", 3), (2, "hand off r", 2))), (shown.states, shown.triples))
        # Nobody ever comes out, and the hand has nothing to do: all is one, also with the end behind the dark.
        self.assertEqual(Face(1, []), face(of([("go", "a")]), [], False))

    def test_by_hand(self):
        deeds = [("drain", "r"), ("off", "r"), ("on", "r")]
        for inner in some_inners(2, 30):
            for some, turns in ((deeds[:2], False), ([], True), (deeds[:1], True)):
                states, moves = machine_of(inner, some, turns)
                if states > 25:
                    continue
                found = face(inner=inner, deeds=some, turns=turns)
                self.assertEqual(face_by_hand(states, moves), (found.states, found.triples))
                self.assertEqual(found, least(found))
                self.assertEqual(found, face(inner, tuple(some), turns, 300))
                self.assertEqual(states, self.met(inner, some, turns))

    def met(self, inner, deeds, turns):
        """How many standings are met: the least `most` that is let."""
        most = 1
        while raised(face, inner, deeds, turns, most) == ("InvalidSize", "standings"):
            most += 1
        self.assertIsNone(raised(face, inner, deeds, turns, most=most + 1))
        return most

    def test_most(self):
        inner = of([("go", "a")])
        self.assertEqual(2, self.met(inner, [], False))
        self.assertEqual(4, self.met(inner, [("off", "r")], False))
        self.assertEqual(("InvalidSize", "standings"), raised(face, inner, [("off", "r")], False, 3))
        rows = [("go", "a"), ("see", "c"), ("set", "c", 1), ("set", "c", 2), ("again", 1)]
        self.assertEqual(("InvalidSize", "standings"), raised(face, of(rows), [], True, 20))

    def test_errors(self):
        for value in VALUES:
            self.assertEqual(("InvalidSize", "inner"), raised(face, value, None, False))
        self.assertEqual(("InvalidPlan", 1), raised(face, INNER, [("off", "zz"), ("off", "out")], False, 1))
        self.assertEqual(("NoName", "zz"), raised(face, INNER, [("drain", "r"), ("shut", "zz"), ("off", "yy")], False, 1))
        self.assertEqual(("NoName", "c"), raised(face, INNER, [("off", "c")], False))
        self.assertEqual(("InvalidSize", "standings"), raised(face, INNER, [("off", "r")], False, 1))


class Machines(unittest.TestCase):
    def test_made(self):
        told = [(1, "b", 0), [0, "a", 1], (1, "b", 0), (0, "", 1)]
        made = Face(2, told)
        self.assertEqual((2, ((0, "", 1), (0, "a", 1), (1, "b", 0))), (made.states, made.triples))
        self.assertEqual({tuple}, {type(row) for row in (made.triples, *made.triples)})
        told.pop()
        self.assertEqual(3, len(made.triples))
        self.assertEqual(made, Face(triples=tuple(made.triples), states=2))
        self.assertEqual('0 "" 1\n0 "a" 1\n1 "b" 0\n', made.text())
        self.assertEqual("", Face(3, ()).text())
        self.assertEqual('0 "hand off r" 10\n', Face(11, [(0, "hand off r", 10)]).text())
        with self.assertRaises(TypeError):
            iter(made)

    def test_hidden_triples_to_the_state_itself_say_nothing(self):
        self.assertEqual(((0, "a", 0), (1, "", 0)), Face(2, [(0, "", 0), (1, "", 0), (1, "", 1), (0, "a", 0)]).triples)

    def test_equal(self):
        made = Face(2, [(0, "a", 1)])
        self.assertTrue(made == Face(2, ((0, "a", 1),)))
        for other in (Face(3, [(0, "a", 1)]), Face(2, [(0, "a", 0)]), Face(2, []), Face(2, [(0, "b", 1)]), *VALUES):
            self.assertFalse(made == other)

    def test_errors(self):
        for value in VALUES:
            if type(value) is not int or value < 1:
                self.assertEqual(("InvalidSize", "states"), raised(Face, value, value))
            if not isinstance(value, (list, tuple)):
                self.assertEqual(("InvalidSize", "triples"), raised(Face, 2, value))
            self.assertEqual(("InvalidSize", "triples"), raised(Face, 2, [(0, "a", 1), value]))
            if type(value) is not int or not 0 <= value <= 1:
                self.assertEqual(("InvalidSize", "triples"), raised(Face, 2, [(value, "a", 0)]))
                self.assertEqual(("InvalidSize", "triples"), raised(Face, 2, [(0, "a", value)]))
            if not isinstance(value, str):
                self.assertEqual(("InvalidSize", "triples"), raised(Face, 2, [(0, value, 0)]))
        for triple in ((0, "a"), (0, "a", 0, 0), (0, "a", 2), (2, "a", 0), "0a0"):
            self.assertEqual(("InvalidSize", "triples"), raised(Face, 2, [triple]))
        for value in VALUES:
            if not isinstance(value, Face):
                self.assertEqual(("InvalidSize", "face"), raised(least, value))

    def test_least_by_hand(self):
        # The hidden move of 0 loses the choice: 0 is not alike to 1; 2 and 3 are alike, and so is what shows nothing.
        made = Face(4, [(0, "", 1), (0, "a", 2), (1, "b", 3)])
        self.assertEqual(Face(3, [(0, "", 1), (0, "a", 2), (0, "b", 2), (1, "b", 2)]), least(made))
        # A hidden move that loses nothing: one state.
        self.assertEqual(Face(1, [(0, "a", 0)]), least(Face(3, [(0, "", 1), (1, "a", 2), (2, "", 0)])))
        # Also states to which nothing leads from 0.
        self.assertEqual(Face(2, [(1, "a", 0), (1, "a", 1)]), least(machine=Face(3, [(2, "a", 2), (2, "a", 0)])))
        self.assertEqual(Face(1, []), least(Face(5, [(3, "", 4), (4, "", 3), (0, "", 4)])))

    def test_least_of_some(self):
        chance = random.Random(5)
        for states, many in itertools.product((1, 2, 3, 4, 5, 6), (1, 3, 5, 8, 11)):
            for _ in range(8):
                told = [(chance.randrange(states), chance.choice(["", "", "a", "b"]), chance.randrange(states))
                        for _ in range(many)]
                made = Face(states, told)
                found = least(made)
                self.assertEqual(face_by_hand(states, told), (found.states, found.triples))
                self.assertEqual(found, least(found))
                self.assertEqual(Face(states, told), made)


if __name__ == "__main__":
    unittest.main()
