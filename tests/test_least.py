"""[1] to [3], [11], [37]: stories by lots made stories by numbers, and the fewest guests."""

import itertools
import random
import unittest

from helpers import VALUES, bent, raised, random_world
from lightsout.least import least_guests, most_needed, numbered
from lightsout.lots import Lots, first_standing, moves
from lightsout.plans import World
from lightsout.stage import Stage

HOUSE = "part hall\ndoor gate out hall open\ncell c hall\n"
KINDS = "kind k\ngo gate\nset c 1\ntell c\ngo gate\nkind r\ngo gate\nsee c\nplan\n"
LOST = World.read(HOUSE + KINDS + "drain hall\noff hall\non hall")
HALL = World.read("part hall\ndoor gate out hall open\nkind k\ngo gate\ngo gate\nplan\noff hall\non hall")
Y, IN, BACK = (0, 0, -1, None), (0, 1, 0, None), (0, 2, -1, None)


def step(place, is_left=False):
    return "step", place, is_left


def comes_with(world, caps):
    """All harms of stories by numbers in which just so many guests come, all of them at first."""
    stage = Stage(world)
    comes = [f"come {kind.name}" for kind, many in zip(world.kinds, caps) for _ in range(many)]
    first = stage.play(comes)[0][-1]
    met, harms = [first], set()
    seen = {first}
    for standing in met:
        for event, harm in stage.may(standing):
            if harm is not None:
                harms.add(harm)
            elif not event.startswith("come"):
                behind = behind_event(stage, standing, event)
                if behind not in seen:
                    seen.add(behind)
                    met.append(behind)
    return harms


def behind_event(stage, standing, event):
    from lightsout.guests import step as guest_step
    from lightsout.plans import deed
    world = stage.world
    row, places, hand = standing
    if event == "hand":
        row, places, _ = deed(world.house, row, places, world.plan.deeds[hand])
        return row, places, hand + 1
    guest = int(event[5:])
    row, place, _ = guest_step(world.house, world.kinds, row, places[guest])
    return row, places[:guest] + (place,) + places[guest + 1:], hand


class Numbered(unittest.TestCase):
    def test_others_stay_and_all_go(self):
        self.assertEqual((), numbered(HALL, ())[1:])
        self.assertEqual(("come k",), numbered(HALL, ()))
        self.assertEqual(("come k", "come k", "step 0"), numbered(world=HALL, story=[step(Y)]))
        # At the end one at each place: three are needed, two of whom go in, and one of these goes out again.
        self.assertEqual(("come k", "come k", "come k", "step 0", "step 1", "step 0"), numbered(HALL, (step(Y), step(IN))))
        self.assertEqual(("come k", "come k", "step 0", "step 0"), numbered(HALL, (step(Y), step(IN, True))))
        self.assertEqual(("come k", "come k", "step 0", "step 0", "hand"),
                         numbered(HALL, (step(Y), step(IN, True), ("hand",))))
        self.assertEqual(3, most_needed(HALL, [step(Y), step(IN)]))
        self.assertEqual(2, most_needed(world=HALL, story=(step(Y), step(IN, True))))

    def test_harms(self):
        self.assertEqual(("come k", "step 0", "hand"), numbered(HALL, (step(Y), ("hand",))))
        self.assertEqual(("come k", "hand", "step 0"), numbered(HALL, (("hand",), step(Y))))
        # The one who goes in first is not needed; nor is who goes out, but nobody else does the harm.
        two = (step(Y), step(IN, True), ("hand",), step(Y))
        self.assertEqual(("come k", "hand", "step 0"), numbered(HALL, two))
        self.assertEqual(1, most_needed(HALL, two))

    def test_nobody_comes_of_a_kind_that_is_not_needed(self):
        story = numbered(LOST, [step((1, 0, -1, None)), step((1, 1, 0, None))])
        self.assertEqual(["come k", *["come r"] * 3], list(story[:4]))
        world = World.read(HOUSE + KINDS + "off hall")
        self.assertEqual(("come r", "step 0", "hand"), numbered(world, [step((1, 0, -1, None)), ("hand",)]))
        self.assertEqual(1, most_needed(world, [step((1, 0, -1, None)), ("hand",)]))

    def test_inside_needs_the_first_place_in_the_part(self):
        world = World.read("part p\ndoor d out p open\ncell c p\nkind a\ngo d\nuse c\nkind b\ngo d\nplan\noff p")
        a, b = (0, 0, -1, None), (1, 0, -1, None)
        self.assertEqual(("come a", "step 0", "hand"), numbered(world, (step(b), step(a), ("hand",))))
        self.assertEqual(("come a", "step 0", "hand"), numbered(world, (step(b), step(a), step((0, 1, 0, None)), ("hand",))))
        self.assertEqual(("come a", "step 0", "step 0", "hand"),
                         numbered(world, (step(b), step(a), step((0, 1, 0, None), True), ("hand",))))

    def test_the_house_row_changes(self):
        world = World.read("part p\ndoor d out p shut\nkind a\nopen d\nrest\nkind b\ngo d\nplan\nshut d\noff p")
        a, b = (0, 0, -1, None), (1, 0, -1, None)
        # One a opens, though nobody is needed where he stands then; so does one more to the taken place, as d is shut again.
        self.assertEqual(("come a", "come b", "step 0", "step 1", "hand", "hand"),
                         numbered(world, (step(a), step(b), ("hand",), ("hand",))))
        self.assertEqual(("come a", "come a", "come b", "step 0", "hand", "step 1", "step 2", "hand"),
                         numbered(world, (step(a), ("hand",), step(a), step(b), ("hand",))))
        # In a step to a taken place by which nothing changes nobody is needed.
        again = World.read("part p\ndoor d out p open\nkind a\ngo d\ngo d\ngo d\nkind b\nrest\nplan\noff p")
        went = (step(a), step((0, 1, 0, None)), step((0, 2, -1, None)))
        self.assertEqual(4 + 1, most_needed(again, went))
        self.assertEqual(3 + 1, most_needed(again, (step(a), step((0, 1, 0, None), True), step(a))))
        # Who stands behind the door opened first goes on being needed there: one more opens it again.
        lit = World.read(world.text().replace("door d out p shut", "door d out p open"))
        self.assertEqual(("come a", "come a", "come a", "come b", "step 0", "hand", "step 1"),
                         numbered(lit, (step(a), ("hand",), step(a))))

    def test_those_at_a_taken_place_stay_needed(self):
        world = World.read("part a\ndoor d out a open\ncell s a\nkind k\ngo d\nset s 1\nset s 0\nplan")
        y, one, two, three = (0, 0, -1, None), (0, 1, 0, None), (0, 2, 0, None), (0, 3, 0, None)
        story = (step(y), step(one), step(two), step(one))
        due = ("come k",) * 5 + ("step 0", "step 1", "step 2", "step 3", "step 0", "step 1", "step 0", "step 2")
        self.assertEqual(due, numbered(world, story))
        self.assertEqual(5, most_needed(world, story))
        played = Stage(world).play(due)[0][-1]
        self.assertEqual([y, one, two, two, three], sorted(played[1], key=lambda place: place[:3]))
        # By a step to a taken place by which all go one is needed as well, but all who stand there go.
        story = (step(y), step(one), step(two), step(one, True))
        self.assertEqual(4, most_needed(world, story))
        self.assertEqual(("come k",) * 4 + ("step 0", "step 1", "step 2", "step 0", "step 1", "step 0", "step 2"),
                         numbered(world, story))
        # The house row does not change by the last step: nobody is needed, and nobody stands there to go.
        story = (step(y), step(one), step(one, True))
        self.assertEqual(2, most_needed(world, story))
        self.assertEqual(("come k", "come k", "step 0", "step 0"), numbered(world, story))

    def test_one_alone_does_the_harm(self):
        world = World.read("part p\ndoor d out p shut\nkind a\nopen d\ngo d\nplan\nshut d\noff p")
        a, opened = (0, 0, -1, None), (0, 1, -1, None)
        whats = (step(a), ("hand",), step(a), ("hand",), step(opened))
        self.assertEqual(("come a", "come a", "step 0", "hand", "step 1", "hand", "step 0"), numbered(world, whats))

    def test_an_off_makes_two_places_one(self):
        world = World.read("part p\ndoor d out p open\ncell c p\nkind k\ngo d\nsee c\ngo d\ngo d\nuse c\nplan\noff p\non p\noff p\n"
                           "on p")
        within, saw, out, old = (0, 1, 0, None), (0, 2, 0, (0, 0, False)), (0, 3, -1, (0, 0, False)), (0, 3, -1, (0, 0, True))
        goes = (step(Y), step(within, True), step(saw, True))
        whats = (*goes, ("hand",), ("hand",), *goes, ("hand",), ("hand",), step(old), step((0, 4, 0, (0, 0, True))))
        story = numbered(world, whats)
        # The fresh pocket comes ahead of the old one: the one who went in later does it.
        self.assertEqual(("come k", "hand", "hand", "step 0", "step 0", "step 0", "hand", "hand", "step 0", "step 0"), story)
        self.assertEqual((9, ("stale", "c")), Stage(world).play(story)[1])
        calm = numbered(world, whats[:-2])
        self.assertEqual(("come k", "come k", *["hand"] * 2, *["step 0"] * 3, *["hand"] * 2), calm)
        self.assertIn(out, Stage(world).play(calm)[0][7][1])

    def test_played_on_the_stage(self):
        chance = random.Random(61)
        harmed = many = 0
        for _ in range(150):
            world = random_world(chance, rows=4, deeds=4)
            caps = (None,) * len(world.kinds)
            standing, whats, standings, end = first_standing(world, caps), [], [], None
            standings.append(standing)
            for _ in range(14):
                told = moves(world, caps, standing)
                if not told:
                    break
                what, standing, end = chance.choice(told)
                whats.append(what)
                if end is not None:
                    break
                standings.append(standing)
            story = numbered(world, whats)
            self.assertEqual(story, numbered(world, tuple(whats)))
            comes = [event for event in story if event.startswith("come")]
            self.assertEqual(len(comes), most_needed(world, whats))
            self.assertEqual(comes, list(story[:len(comes)]))
            self.assertEqual([f"come {kind.name}" for kind in world.kinds for event in comes if event[5:] == kind.name], comes)
            played, ended = Stage(world).play(story) if len(story) <= 200 else ([standings[-1]], end and (0, end))
            self.assertEqual(end, ended and ended[1])
            self.assertEqual((standings[-1][0], standings[-1][2]), (played[-1][0], played[-1][2]))
            self.assertLessEqual(set(played[-1][1]), set(standings[-1][1]))
            if end is None:
                self.assertEqual(set(standings[-1][1]), set(played[-1][1]))
            harmed += end is not None
            many += len(comes) > 3
        self.assertGreater(harmed, 20)
        self.assertGreater(many, 20)

    def test_harms_of_lots(self):
        chance = random.Random(62)
        for _ in range(60):
            world = random_world(chance, rows=4, deeds=3)
            lots = Lots(world, (None,) * len(world.kinds), 20000)
            for harm in lots.harms:
                self.assertEqual(harm, Stage(world).play(numbered(world, lots.story(harm)))[1][1])

    def test_errors(self):
        for call in (numbered, most_needed):
            for value in VALUES:
                if not isinstance(value, (list, tuple)):
                    self.assertEqual(("InvalidStory", -1), raised(call, HALL, value), value)
            wrong = [*VALUES, *bent(step(Y)), ["hand"], "hand", ("hand", 0), ("step", Y), ("step", [*Y], False), ("Step", Y, False),
                     ("step", (1, 0, -1, None), False), ("step", (0, 4, -1, None), False), ("step", (0, 0, 1, None), True)]
            for value in wrong:
                if value not in [step(Y), step(BACK[:1] + (0, 0, None))]:
                    self.assertEqual(("InvalidStory", 1), raised(call, HALL, [step(IN), value, None]), value)
            for story, at in [((step(IN),), 0), ((step(Y, True),), 0), ((step(Y), step(Y)), 1), ((("hand",),) * 3, 2),
                              ((step(Y), ("hand",), ("hand",)), 2), ((("hand",), step(Y), ("hand",)), 2),
                              ((step(Y), step(IN, True), step(IN)), 2), ((("hand",), step(Y, True)), 1)]:
                self.assertEqual(("Refused", at), raised(call, HALL, story), story)
                self.assertEqual(("InvalidStory", len(story)), raised(call, HALL, (*story, None)))


class Least(unittest.TestCase):
    def test_example(self):
        caps, story = least_guests(LOST, ("lost", "c"))
        self.assertEqual((1, 1), caps)
        self.assertEqual(("lost", "c"), Stage(LOST).play(story)[1][1])
        self.assertEqual((0, 1), least_guests(World.read(HOUSE + KINDS + "off hall"), ["inside", "hall"])[0])
        self.assertIsNone(least_guests(World.read(HOUSE + KINDS.replace("tell c\n", "") + "drain hall\noff hall\non hall"),
                                       ("lost", "c")))
        self.assertIsNone(least_guests(world=HALL.with_plan([]), harm=("dark", "hall")))

    def test_two_of_a_kind(self):
        house = "part p\npart q\ndoor d out p open\ndoor e p q open\ncell c p\n"
        world = World.read(house + "kind a\ngo d\nsee c\nset c 1\nwhen 0 3\ngo e\nkind b\ngo d\nset c 1\nplan\noff q")
        caps, story = least_guests(world, ("dark", "q"))
        self.assertEqual((1, 1), caps)
        self.assertEqual(2, len([event for event in story if event.startswith("come")]))
        alone = World(world.house, world.kinds[:1], world.plan)
        caps, story = least_guests(alone, ("dark", "q"))
        self.assertEqual((2,), caps)
        self.assertEqual(("dark", "q"), Stage(alone).play(story)[1][1])

    def test_as_by_hand(self):
        """By lots with any number just what by some number: the doc's [11]."""
        chance = random.Random(63)
        counts = {}
        for _ in range(50):
            world = random_world(chance, rows=3, deeds=3)
            lots = Lots(world, (None,) * len(world.kinds))
            met = {}
            for total in range(4):
                for caps in itertools.product(range(total + 1), repeat=len(world.kinds)):
                    if sum(caps) == total:
                        for harm in comes_with(world, caps):
                            met.setdefault(harm, caps)
            self.assertLessEqual(set(met), set(lots.harms))
            house = world.house
            for word, names in (("inside", house.parts), ("dark", house.parts), ("stale", [cell[0] for cell in house.cells]),
                                ("lost", [cell[0] for cell in house.cells])):
                for name in names:
                    told = least_guests(world, (word, name))
                    self.assertEqual((word, name) in lots.harms, told is not None)
                    if told is None:
                        continue
                    caps, story = told
                    counts[sum(caps)] = counts.get(sum(caps), 0) + 1
                    if sum(caps) < 4:
                        self.assertEqual(met[word, name], caps)
                    self.assertEqual((word, name), Stage(world).play(story)[1][1])
                    self.assertEqual(caps, tuple(story.count(f"come {kind.name}") for kind in world.kinds))
        self.assertGreater(counts[1], 10)

    def test_errors(self):
        for harm in [*VALUES, ("shut in", "hall"), ("inside",), ("inside", 0)]:
            self.assertEqual(("InvalidSize", "harm"), raised(least_guests, HALL, harm), harm)
        for harm in (("inside", "gate"), ("dark", "out"), ("lost", "hall"), ("stale", "c")):
            self.assertEqual(("NoName", harm[1]), raised(least_guests, HALL, harm))

    def test_too_many(self):
        kinds = "".join(f"kind {name}\ngo d\nsee c\nset c 1\nset e 2\ngo d\n" for name in "ab")
        world = World.read(f"part p\ndoor d out p open\ncell c p\ncell e p\n{kinds}plan\ndrain p")
        self.assertEqual(("InvalidSize", "standings"), raised(least_guests, world, ("lost", "c")))
        self.assertEqual(("NoName", "p"), raised(least_guests, world, ("lost", "p")))


if __name__ == "__main__":
    unittest.main()
