"""[1] to [3], [72] to [74]: bells, lamps, faces, logs, and sensors that count."""

import itertools
import random
import unittest

from helpers import VALUES, raised, random_world
from lightsout.bells import log_told, tallied, tally_groups
from lightsout.house import House
from lightsout.least import numbered
from lightsout.lots import first_standing, moves
from lightsout.plans import World
from lightsout.stage import Stage

HALL = World.read("part hall\ndoor gate out hall open\nkind k\ngo gate\ngo gate\nplan\noff hall")
BELL, LAMP = ("bell", "gate"), ("lamp", "hall")
Y, IN, BACK = (0, 0, -1, None), (0, 1, 0, None), (0, 2, -1, None)
TWO = House(["p", "q", "r"], [("d", "out", "p", True), ("e", "p", "q", False), ("f", "q", "p", True),
                              ("g", "r", "out", True)], [])


def step(place, is_left=False):
    return "step", place, is_left


class Logs(unittest.TestCase):
    def test_by_hand(self):
        both = [BELL, LAMP]
        self.assertEqual(((False, False),), log_told(HALL, both, ()))
        self.assertEqual(((True, True),), log_told(HALL, both, [step(Y)]))
        self.assertEqual(((True, False),), log_told(HALL, both, [step(Y), step(IN, True)]))
        self.assertEqual(((True, True),), log_told(HALL, both, [step(Y), step(IN)]))
        self.assertEqual(((True, False), (False, False)), log_told(HALL, both, (step(Y), step(IN, True), ("hand",))))
        self.assertEqual(((True,), (False,)), log_told(world=HALL, sensors=(BELL,), story=[
            "come k", "step 0", "step 0", "hand"]))
        self.assertEqual(((False, True),), log_told(HALL, both[::-1], ["come k", "step 0", "come k", "step 0"]))
        self.assertEqual(((), ()), log_told(HALL, (), ("hand",)))

    def test_the_bell_does_not_tell_whether_somebody_is_in(self):
        back, within = [step(Y), step(IN, True)], [step(Y)]
        self.assertEqual(((True,),), log_told(HALL, [BELL], back))
        self.assertEqual(((True,),), log_told(HALL, [BELL], within))
        self.assertNotEqual(log_told(HALL, [LAMP], back), log_told(HALL, [LAMP], within))

    def test_each_sensor_ahead_of_each_deed_and_at_the_end(self):
        world = World.read("part p\npart q\ndoor d out p open\ndoor e p q open\ncell c p\ncell m q\nkind k\ngo d\nset c 2\n"
                           "go e\nset m 1\ngo e\ngo d\nplan\non p\non q\noff q")
        sensors = [("bell", "d"), ("face", "c"), ("lamp", "p"), ("bell", "e"), ("lamp", "q"), ("face", "m")]
        story = ["hand", "come k", "step 0", "step 0", "hand", "step 0", "step 0", "step 0", "hand", "step 0"]
        asked = ((False, 0, False, False, False, 0), (True, 2, True, False, False, 0), (False, 2, True, True, False, 1),
                 (True, 2, False, False, False, 0))
        self.assertEqual(asked, log_told(world, sensors, story))
        for entry in log_told(world, sensors, story):
            self.assertEqual([bool, int, bool, bool, bool, int], [type(told) for told in entry])
        lots = [("hand",), step(Y), step(IN, True), ("hand",), step(BACK[:2] + (0, None), True),
                step((0, 3, 1, None), True), step((0, 4, 1, None), True), ("hand",), step((0, 5, 0, None), True)]
        self.assertEqual(asked, log_told(world, sensors, lots))

    def test_what_changes_nothing_can_be_done(self):
        # He goes through the gate to where somebody stands already: the bell lights all the same.
        story = [step(Y), ("hand",)]
        world = HALL.with_plan([("on", "hall"), ("on", "hall")])
        self.assertEqual(((True,), (True,), (False,)), log_told(world, [BELL], [step(Y), ("hand",), step(Y), ("hand",)]))
        self.assertEqual(((True,), (False,)), log_told(world, [BELL], story))
        again = World.read("part p\nkind k\nagain 0\nagain 1\nplan")
        self.assertEqual(((),), log_told(again, [], [step(Y), step(Y)]))
        ring = World.read("part p\nkind k\nuse c\nagain 1\nplan".replace("part p\n", "part p\ncell c p\n"))
        self.assertEqual(((0,),), log_told(ring, [("face", "c")], [step(Y), step(IN[:2] + (-1, None), True)]))

    def test_by_lots_as_by_numbers(self):
        chance = random.Random(21)
        many = 0
        for _ in range(120):
            world = random_world(chance)
            caps = (None,) * len(world.kinds)
            standing, whats = first_standing(world, caps), []
            for _ in range(8):
                told = [move for move in moves(world, caps, standing) if move[2] is None]
                if not told:
                    break
                what, standing, _ = chance.choice(told)
                whats.append(what)
            house = world.house
            sensors = [("bell", door[0]) for door in house.doors] + [("face", cell[0]) for cell in house.cells]
            sensors += [("lamp", part) for part in house.parts]
            chance.shuffle(sensors)
            story = numbered(world, whats)
            log = log_told(world, sensors, whats)
            self.assertEqual(len([what for what in whats if what == ("hand",)]) + 1, len(log))
            faces = [at for at, told in enumerate(sensors) if told[0] == "face"]
            by_numbers = log_told(world, sensors, story)
            for one, other in zip(log, by_numbers, strict=True):
                self.assertEqual([one[at] for at in faces], [other[at] for at in faces])
                # Fewer may walk by numbers; with a guest at each place at the end nothing is ever lit that is not by lots.
                self.assertTrue(all(other[at] <= one[at] for at in range(len(sensors))))
            self.assertEqual(log[-1][:0] + tuple(log[-1][at] for at, told in enumerate(sensors) if told[0] == "lamp"),
                             tuple(by_numbers[-1][at] for at, told in enumerate(sensors) if told[0] == "lamp"))
            self.assertEqual(self.by_hand(world, sensors, story), by_numbers)
            many += len(log) > 1
        self.assertGreater(many, 40)

    def by_hand(self, world, sensors, story):
        standings, end = Stage(world).play(story)
        self.assertIsNone(end)
        log, lit = [], set()
        for at, (row, places, _) in enumerate(standings):
            is_look = at == len(story) or story[at] == "hand"
            if is_look:
                told = []
                for word, name in sensors:
                    if word == "bell":
                        told.append(name in lit)
                    elif word == "lamp":
                        told.append(any(place[2] == world.house.parts.index(name) for place in places))
                    else:
                        told.append(row[2][[cell[0] for cell in world.house.cells].index(name)])
                log.append(tuple(told))
                lit = set()
            elif story[at].startswith("step"):
                kind, number, _, _ = places[int(story[at][5:])]
                done = world.kinds[kind].rows[number]
                lit |= {done[1]} if done[0] == "go" else set()
        return tuple(log)

    def test_wrong_sensors(self):
        for value in VALUES:
            if not isinstance(value, (list, tuple)):
                self.assertEqual(("InvalidSensor", -1), raised(log_told, HALL, value, None), value)
        wrong = [*VALUES, BELL, ("bell", "hall"), ("lamp", "gate"), ("lamp", "out"), ("face", "hall"), ("bell",),
                 ("bell", "gate", 1), ("door", "gate"), (None, "gate"), ("bell", None), (["bell"], "gate"), list(LAMP), "lamp", ("Lamp", "hall")]
        for value in wrong:
            self.assertEqual(("InvalidSensor", 1), raised(log_told, HALL, [BELL, value, None], None), value)

    def test_wrong_stories(self):
        for value in VALUES:
            if not isinstance(value, (list, tuple)):
                self.assertEqual(("InvalidStory", -1), raised(log_told, HALL, [BELL], value), value)
        wrong = [*VALUES, ["hand"], ("step", Y), ("step", Y, 0), ("step", Y, None), ("step", list(Y), False), "step", "step -1",
                 ("step", (0, 3, -1, None), False), ("step", (1, 0, -1, None), False), ("come", "k"), ("hand", 0), "come m",
                 ("step", (False, 0, -1, None), False), "hand ", ("hands",)]
        for value in wrong:
            self.assertEqual(("InvalidStory", 0), raised(log_told, HALL, [], [value, None]), value)
            self.assertEqual(("InvalidStory", 1), raised(log_told, HALL, [], ["step 3", value]), value)
            self.assertEqual(("InvalidStory", 1), raised(log_told, HALL, [], [step(IN), value]), value)
        self.assertEqual(("InvalidStory", 1), raised(log_told, HALL, [], ["hand", ("hand",)]))
        self.assertEqual(("InvalidStory", 1), raised(log_told, HALL, [], [("hand",), "hand"]))

    def test_refused(self):
        for story, at in [(["step 0"], 0), (["come k", "step 0", "hand"], 2), (["hand", "come k", "step 0"], 2),
                          (["hand", "hand"], 1), ([step(IN)], 0), ([step(Y, True)], 0), ([step(Y), ("hand",)], 1),
                          ([("hand",), step(Y)], 1), ([("hand",), ("hand",)], 1), ([step(Y), step(IN, True), step(IN)], 2),
                          ([step(Y), step(IN), step(BACK)], 2), (["come k", "step 0", "step 0", "step 0"], 3)]:
            self.assertEqual(("Refused", at), raised(log_told, HALL, [BELL], story), story)
        two = World.read(HALL.text().replace("kind k", "kind a\nrest\nkind k"))
        first = (1, 0, -1, None)
        self.assertEqual(((True,),), log_told(two, [BELL], [step(first)]))
        self.assertEqual(("Refused", 0), raised(log_told, two, [BELL], [step(first, True)]))

    def test_long_stories(self):
        self.assertEqual(((False,),), log_told(HALL, [BELL], ["come k"] * 300))


class Tallies(unittest.TestCase):
    def test_groups(self):
        self.assertEqual((("out", "p", "q", "r"),), tally_groups(TWO, ()))
        self.assertEqual((("out", "r"), ("p", "q")), tally_groups(house=TWO, doors=["d"]))
        self.assertEqual((("out", "p", "q"), ("r",)), tally_groups(TWO, ("g",)))
        self.assertEqual((("out", "p", "q", "r"),), tally_groups(TWO, ("e",)))
        self.assertEqual((("out", "p", "r"), ("q",)), tally_groups(TWO, ("e", "f")))
        self.assertEqual((("out",), ("p",), ("q",), ("r",)), tally_groups(TWO, ["g", "f", "e", "d"]))
        alone = House(["a", "b"], [("d", "b", "out", True)], [])
        self.assertEqual((("out", "b"), ("a",)), tally_groups(alone, []))

    def test_by_hand(self):
        self.assertEqual((None, 2), tallied(HALL.house, ["gate"], [(3, 1)]))
        self.assertEqual((None, 0), tallied(house=HALL.house, doors=("gate",), counts=((5, 5),)))
        self.assertIsNone(tallied(HALL.house, ["gate"], [(1, 2)]))
        self.assertIsNone(tallied(HALL.house, ["gate"], [(0, 1)]))
        self.assertEqual((None, 10 ** 6), tallied(HALL.house, ["gate"], [(10 ** 6, 0)]))
        self.assertEqual((None,), tallied(HALL.house, [], []))
        # g leads from r to the yard; back by it one goes in.
        self.assertEqual((None, 4), tallied(TWO, ["g"], [(0, 4)]))
        self.assertEqual((None, 1, 2), tallied(TWO, ["d", "e", "f"], [(3, 0), (2, 0), (0, 0)]))
        # Into p and back by e, through q, where f stands open and counts nobody.
        self.assertEqual((None, 3), tallied(TWO, ["d", "e"], [(3, 0), (7, 7)]))
        self.assertEqual((None,), tallied(TWO, ["e"], [(7, 7)]))
        # Round and round from q to p and back, but nobody ever came to them.
        self.assertIsNone(tallied(TWO, ["d", "e", "f"], [(0, 0), (1, 1), (0, 0)]))
        self.assertIsNone(tallied(TWO, ["d", "e"], [(0, 0), (1, 0)]))
        self.assertEqual((None, 1), tallied(TWO, ["d", "e"], [(1, 0), (1, 0)]))
        # Whoever went out of p again was in it.
        self.assertEqual((None, 0, 0), tallied(TWO, ["d", "e", "f"], [(1, 1), (1, 0), (1, 0)]))

    def test_as_walkers(self):
        """What up to three walkers make by a few steps is told; counts beyond are not asked."""
        house = House(["p", "q"], [("d", "out", "p", False), ("e", "p", "q", True), ("f", "p", "q", False)], [])
        for doors in ((), ("d",), ("e",), ("d", "e"), ("d", "f", "e"), ("e", "f")):
            groups = tally_groups(house, doors)
            made = {}
            spots = ["out", "p", "q"]
            level = {(tuple([(0, 0)] * len(doors)), (0, 0, 0))}
            seen = set(level)
            while level:
                behind = set()
                for counts, where in level:
                    for walker, number in itertools.product(range(3), range(3)):
                        name, one, other, _ = house.doors[number]
                        for way, (here, there) in enumerate([(one, other), (other, one)]):
                            if spots[where[walker]] != here:
                                continue
                            told = list(counts)
                            if name in doors:
                                pair = list(told[doors.index(name)])
                                pair[way] += 1
                                told[doors.index(name)] = tuple(pair)
                            if max([0, *[max(pair) for pair in told]]) <= 2:
                                left = list(where)
                                left[walker] = spots.index(there)
                                behind.add((tuple(told), tuple(left)))
                level = behind - seen
                seen |= level
            for counts, where in seen:
                inside = tuple(None if "out" in group else len([at for at in where if spots[at] in group]) for group in groups)
                made.setdefault(counts, set()).add(inside)
            for counts in itertools.product(itertools.product(range(3), repeat=2), repeat=len(doors)):
                told = tallied(house, doors, counts)
                if counts in made:
                    self.assertEqual({told}, made[counts], (doors, counts))
                elif told is not None:
                    # More than three would be needed for it.
                    self.assertGreater(sum(max(pair) for pair in counts), 3, (doors, counts))

    def test_errors(self):
        for call, more in ((tally_groups, ()), (tallied, (None,))):
            for value in VALUES:
                if not isinstance(value, (list, tuple)):
                    self.assertEqual(("InvalidLot", -1), raised(call, TWO, value, *more), value)
                if not isinstance(value, str):
                    self.assertEqual(("InvalidLot", 1), raised(call, TWO, ["x", value], *more), value)
            self.assertEqual(("InvalidLot", 2), raised(call, TWO, ["d", "x", "d"], *more))
            self.assertEqual(("InvalidLot", 1), raised(call, TWO, ["x", "x"], *more))
            for name in ("p", "out", "x", "", "D"):
                self.assertEqual(("NoName", name), raised(call, TWO, ("d", name, "y"), *more))
        for value in [*VALUES, [(1, 0), (0, 0)], [(1,)], [(1, 0, 0)], [(1, -1)], [(True, 0)], [(1, None)], [[1, 0]], ["10"],
                      [None], (1, 0)]:
            self.assertEqual(("InvalidSize", "counts"), raised(tallied, TWO, ["d"], value), value)
        self.assertEqual(("InvalidSize", "counts"), raised(tallied, TWO, [], [(0, 0)]))


if __name__ == "__main__":
    unittest.main()
