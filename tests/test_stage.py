"""[1] to [3], [10], [29] to [33]: the stage, twins, exchanges, cores and needs."""

import itertools
import random
import unittest

from helpers import VALUES, bent, raised, random_world
from lightsout.guests import first_place, placed, step
from lightsout.house import first_row
from lightsout.plans import World, deed
from lightsout.stage import Stage

ROWS = "part a\ndoor d out a open\ncell c a\nkind k\ngo d\nsee c\ngo d\ngo d\nuse c\nplan\ndrain a\noff a\non a"
WORLD = World.read(ROWS)
STAGE = Stage(WORLD)
STORY = ("come k", "step 0", "step 0", "step 0", "hand", "hand", "hand", "step 0", "step 0")
STALE = ("stale", "c")
TWO = World.read("part a\ndoor d out a open\nkind k\ngo d\ngo d\nkind m\nshut d\ngo d\nplan\noff a\non a")


def run(world, events):
    """The standings, and how a row of events ends: (at, harm), (at, None) for one that can't be done, or None."""
    row, places, hand = first_row(world.house), (), 0
    standings = [(row, places, hand)]
    names = [kind.name for kind in world.kinds]
    for at, event in enumerate(events):
        word, _, told = event.partition(" ")
        harm = None
        if word == "come":
            places += (first_place(names.index(told)),)
        elif word == "step":
            number = int(told)
            done = step(world.house, world.kinds, row, places[number]) if number < len(places) else None
            if done is None:
                return standings, (at, None)
            harm = done[2]
            if harm is None:
                row, places = done[0], places[:number] + (done[1],) + places[number + 1:]
        else:
            done = deed(world.house, row, places, world.plan.deeds[hand]) if hand < len(world.plan.deeds) else None
            if done is None:
                return standings, (at, None)
            row, places, harm = done
            hand += harm is None
        if harm is not None:
            return standings, (at, harm)
        standings.append((row, places, hand))
    return standings, None


def random_story(chance, world, most):
    """A story that can be played, with a harm at its end if one comes."""
    stage = Stage(world)
    story = ["come " + world.kinds[0].name]
    while len(story) < most:
        told = stage.may(stage.play(story)[0][-1])
        if len([word for word in story if word[:4] == "come"]) > 2:
            told = [pair for pair in told if pair[0][:4] != "come"]
        if not told:
            break
        event, harm = chance.choice(told)
        story.append(event)
        if harm is not None:
            break
    return tuple(story)


def harmed_story(chance, most, rows=4):
    while True:
        world = random_world(chance, rows=rows, deeds=3)
        story = random_story(chance, world, most)
        if Stage(world).play(story)[1] is not None:
            return world, story


def renumbered(told):
    """The texts of events (event, guest or None), guests numbered anew by their comings; None if one has not come."""
    anew, texts = {}, []
    for event, guest in told:
        if event.startswith("come"):
            anew[guest] = len(anew)
        if event.startswith("step"):
            if guest not in anew:
                texts.append(None)
                continue
            event = f"step {anew[guest]}"
        texts.append(event)
    return texts


def with_guests(story):
    came, told = 0, []
    for event in story:
        told.append((event, came if event.startswith("come") else int(event[5:]) if event.startswith("step") else None))
        came += event.startswith("come")
    return told


class Plays(unittest.TestCase):
    def test_by_hand(self):
        standings, end = STAGE.play(STORY)
        self.assertEqual((8, STALE), end)
        self.assertEqual(9, len(standings))
        self.assertEqual((0, 4, 0, (0, 0, True)), standings[-1][1][0])
        self.assertEqual((("come k", None), ("step 0", None)), STAGE.may(standings[3]))
        self.assertEqual((("come k", None), ("step 0", STALE)), STAGE.may(standings[8]))
        self.assertEqual((("come k", None), ("step 0", ("dark", "a"))), STAGE.may(standings[6])[:2])

    def test_first_and_bare(self):
        self.assertEqual((first_row(WORLD.house), (), 0), STAGE.first())
        standing = STAGE.play(("come k", "come k", "step 0", "come k"))[0][-1]
        self.assertEqual(((0, 1, 0, None), (0, 0, -1, None), (0, 0, -1, None)), standing[1])
        self.assertEqual((standing[0], placed(standing[1]), 0), STAGE.bare(standing=standing))

    def test_empty(self):
        self.assertEqual(((STAGE.first(),), None), STAGE.play(()))
        self.assertEqual(((STAGE.first(),), None), STAGE.play(story=[]))

    def test_no_world(self):
        for value in [*VALUES, STAGE, WORLD.house]:
            if not isinstance(value, World):
                self.assertEqual(("InvalidHouse", -1), raised(Stage, value))
        with self.assertRaises(TypeError):
            iter(STAGE)

    def test_as_by_hand(self):
        chance = random.Random(5)
        harms = 0
        for _ in range(200):
            world = random_world(chance)
            story = random_story(chance, world, 25)
            standings, end = run(world, story)
            self.assertEqual((tuple(standings), end), Stage(world).play(story))
            self.assertEqual((tuple(standings), end), Stage(world).play(list(story)))
            harms += end is not None
        self.assertGreater(harms, 30)

    def test_may(self):
        chance = random.Random(6)
        for _ in range(100):
            world = random_world(chance)
            story = random_story(chance, world, 10)
            story = story[:-1] if run(world, story)[1] else story
            standing = run(world, story)[0][-1]
            events = [f"come {kind.name}" for kind in world.kinds]
            events += [f"step {number}" for number in range(len(standing[1]))] + ["hand"]
            found = []
            for event in events:
                end = run(world, (*story, event))[1]
                if end is None or end[1] is not None:
                    found.append((event, end and end[1]))
            self.assertEqual(tuple(found), Stage(world).may(standing))

    def test_inside_and_lost_and_what_stands_ahead(self):
        stage = Stage(TWO)
        standings, end = stage.play(("come k", "step 0", "hand"))
        self.assertEqual(((2, ("inside", "a")), 3), (end, len(standings)))
        world = World.read("part a\ndoor d out a open\ncell c a\nkind k\ngo d\nset c 1\ntell c\ngo d\nkind r\ngo d\nsee c"
                           "\nplan\noff a\non a")
        story = ["come k", *["step 0"] * 4, "hand", "hand", "come r", "step 1", "step 1"]
        self.assertEqual((9, ("lost", "c")), Stage(world).play(story)[1])

    def test_wrong_stories(self):
        for value in VALUES:
            if not isinstance(value, (list, tuple)):
                for call in (STAGE.play, STAGE.alike, STAGE.least_alike, STAGE.core, STAGE.needs):
                    self.assertEqual(("InvalidStory", -1), raised(call, value))
                self.assertEqual(("InvalidStory", -1), raised(STAGE.twin, value, 0))
                self.assertEqual(("InvalidStory", -1), raised(STAGE.exchange, value, None))
        wrong = [*VALUES, "come", "come ", "come m", "come k ", " come k", "come  k", "Come k", "step", "step ", "step -1",
                 "step 00", "step 01", "step 1000", "step 0 ", "step  0", "step x", "step 1x", "step \u0661", "hand ",
                 "hands", "hand 0", "step\t0", ("step", 0), ["hand"], "come out", "step +1", "step 1_0"]
        for value in wrong:
            for call in (STAGE.play, STAGE.alike, STAGE.core, STAGE.needs, STAGE.least_alike):
                self.assertEqual(("InvalidStory", 0), raised(call, [value, None]), value)
                self.assertEqual(("InvalidStory", 2), raised(call, ["step 9", "hand", value]), value)
            self.assertEqual(("InvalidStory", 1), raised(STAGE.twin, ["hand", value], None), value)
            self.assertEqual(("InvalidStory", 1), raised(STAGE.exchange, ["hand", value], None), value)
        for event in ("step 0", "step 7", "step 10", "step 999"):
            self.assertEqual(("Refused", 0), raised(STAGE.play, [event]))

    def test_length(self):
        self.assertEqual(201, len(STAGE.play(["come k"] * 200)[0]))
        self.assertEqual(("InvalidStory", -1), raised(STAGE.play, ["come k"] * 201))
        self.assertEqual(("InvalidStory", -1), raised(STAGE.play, [None] * 201))

    def test_refused(self):
        for story, at in [(("hand", "hand", "hand", "hand"), 3), (("come k", "step 1"), 1), (("step 0", "come k"), 0),
                          (("come k", "step 0", "hand"), 2), ((*STORY, "come k"), 9), ((*STORY, "hand", "step 9"), 9),
                          (("come k", *["hand"] * 3, *["step 0"] * 6), 9)]:
            for call in (STAGE.play, STAGE.alike, STAGE.least_alike, STAGE.core, STAGE.needs):
                self.assertEqual(("Refused", at), raised(call, story), story)
            self.assertEqual(("Refused", at), raised(STAGE.twin, story, None))
            self.assertEqual(("Refused", at), raised(STAGE.exchange, story, 0))
        shut = World.read(TWO.text().replace("d out a open", "d out a shut"))
        self.assertEqual(("Refused", 1), raised(Stage(shut).play, ("come k", "step 0")))

    def test_no_stage_standings(self):
        good = STAGE.play(STORY)[0][5]
        self.assertIsNone(raised(STAGE.may, good))
        row, places, hand = good
        wrong = [*VALUES, *bent(good), (row, places, 4), (row, places, -1), (row, places), (row, list(places), hand),
                 (row, ((1, 0, -1, None),), hand), (row, ((0, 6, -1, None),), hand), (row, ((0, 0, 1, None),), hand)]
        for value in wrong:
            if value != (row, (), hand):
                self.assertEqual(("InvalidLot", -1), raised(STAGE.may, value), value)
        self.assertIsNone(raised(STAGE.may, (row, ((0, 5, -1, None), (0, 0, 0, (0, 2, True))), 3)))


class Twins(unittest.TestCase):
    def test_by_hand(self):
        twin = STAGE.twin(STORY, 0)
        self.assertEqual((14, (13, STALE)), (len(twin), STAGE.play(twin)[1]))
        self.assertEqual(("come k", "come k", "step 0", "step 1"), twin[:4])
        self.assertEqual(("step 0", "step 1", "step 0"), twin[-3:])

    def test_later_guests_go_up_by_one(self):
        story = ("come k", "come m", "come k", "step 0", "step 1", "step 2", "step 0")
        self.assertEqual(("come k", "come m", "come m", "come k", "step 0", "step 1", "step 2"),
                         Stage(TWO).twin(story[:5], 1))
        self.assertEqual(("come k", "come k", "come m", "come k", "step 0", "step 1", "step 3", "step 2"),
                         Stage(TWO).twin(("come k", "come m", "come k", "step 0", "step 2", "step 1"), 0))

    def test_who_does_the_harm_and_who_does_not(self):
        story = ("come k", "come k", "step 1", "step 1", "hand", "step 0")
        stage = Stage(TWO)
        self.assertEqual((5, ("dark", "a")), stage.play(story)[1])
        self.assertEqual(("come k", "come k", "come k", "step 2", "step 2", "hand", "step 0"), stage.twin(story, 0))
        self.assertEqual(("come k", "come k", "come k", "step 1", "step 2", "step 1", "step 2", "hand", "step 0"),
                         stage.twin(story=story, guest=1))

    def test_it_holds(self):
        chance = random.Random(7)
        for number in range(150):
            world, story = (random_world(chance), None) if number % 2 else harmed_story(chance, 16)
            story = story or random_story(chance, world, 16)
            stage = Stage(world)
            standings, end = stage.play(story)
            for guest in range(len([word for word in story if word[:4] == "come"])):
                twins, other = stage.play(stage.twin(story, guest))
                self.assertEqual(end and end[1], other and other[1])
                come = with_guests(story).index(("come " + world.kinds[standings[-1][1][guest][0]].name, guest))
                at = 0
                for number, (event, who) in enumerate(with_guests(story)[:len(standings) - 1]):
                    at += 2 if who == guest else 1
                    row, places, hand = standings[number + 1]
                    there = list(places)
                    if number >= come:
                        there.insert(guest + 1, places[guest])
                    self.assertEqual((row, tuple(there), hand), twins[at])

    def test_long(self):
        story = ["come k", *["come k"] * 199]
        self.assertEqual(201, len(STAGE.twin(story, 0)))

    def test_errors(self):
        for guest in [*VALUES, 2, 1]:
            if guest != 0 or guest is False:
                self.assertEqual(("Refused", 9), raised(STAGE.twin, STORY, guest), guest)
        self.assertEqual(("Refused", 0), raised(STAGE.twin, (), 0))


class Exchanges(unittest.TestCase):
    def test_by_hand(self):
        self.assertEqual(("harm", ("dark", "a")), STAGE.exchange(STORY, 6))
        self.assertEqual(("refused", 0), STAGE.exchange(STORY, 0))
        self.assertEqual(("refused", 3), STAGE.exchange(STORY, 3))
        self.assertEqual(("alike", STORY), STAGE.exchange(STORY, at=1))

    def test_each_answer(self):
        stage = Stage(TWO)
        self.assertEqual(("alike", ("come k", "step 0", "come m", "hand"))[:1],
                         stage.exchange(("come k", "come m", "step 0", "step 1"), 1)[:1])
        self.assertEqual(("alike", ("come k", "step 0", "come m", "step 1")),
                         stage.exchange(["come k", "come m", "step 0", "step 1"], 1))
        self.assertEqual(("refused", 0), stage.exchange(("come k", "come k"), 0))
        self.assertEqual(("refused", 1), stage.exchange(("come m", "come k", "step 1"), 1))
        # The door is shut ahead of him then.
        self.assertEqual(("refused", 3), stage.exchange(("come k", "come m", "step 0", "step 1"), 2))
        self.assertEqual(("harm", ("inside", "a")), stage.exchange(("come k", "step 0", "step 0", "hand"), 2))
        self.assertEqual(("harm", ("dark", "a")), stage.exchange(("come k", "hand", "hand", "step 0"), 2))
        world = World.read("part a\ndoor d out a open\ncell c a\nkind k\ngo d\nset c 1\nkind m\ngo d\nset c 2\nplan")
        story = ("come k", "come m", "step 0", "step 1", "step 0", "step 1")
        word, standing = Stage(world).exchange(story, 4)
        self.assertEqual(("other", (1,), ((0, 2, 0, None), (1, 2, 0, None))), (word, standing[0][2], standing[1]))

    def test_as_by_hand(self):
        chance = random.Random(8)
        seen = {}
        for number in range(500):
            world = random_world(chance, rows=5)
            story = random_story(chance, world, 14)
            standings, end = run(world, story)
            for at in range(len(story) - 1):
                if end is not None and end[0] == at + 1:
                    self.assertEqual(("Refused", at), raised(Stage(world).exchange, story, at))
                    continue
                pair = (story[at + 1], story[at])
                other, stop = run(world, (*story[:at], *pair))
                if all(word.startswith("come") for word in pair):
                    asked = ("refused", at)
                elif stop is not None:
                    asked = ("refused", stop[0]) if stop[1] is None else ("harm", stop[1])
                elif other[-1] == standings[at + 2]:
                    asked = ("alike", (*story[:at], *pair, *story[at + 2:]))
                else:
                    asked = ("other", other[-1])
                self.assertEqual(asked, Stage(world).exchange(story, at))
                seen[asked[0]] = seen.get(asked[0], 0) + 1
        self.assertGreater(min(seen.get(word, 0) for word in ("alike", "refused", "harm", "other")), 2, seen)

    def test_errors(self):
        for at in [*VALUES, 8, 9, -9]:
            if at not in (0, 1, 2, 7) or isinstance(at, bool):
                self.assertEqual(("InvalidSize", "at"), raised(STAGE.exchange, STORY, at), at)
                self.assertEqual(("InvalidSize", "at"), raised(STAGE.exchange, ("step 3", "hand"), at if at != 0 else 5))
                self.assertEqual(("InvalidStory", 0), raised(STAGE.exchange, ("", "hand"), at))
        self.assertEqual(("Refused", 7), raised(STAGE.exchange, STORY, 7))
        self.assertEqual(("Refused", 0), raised(STAGE.exchange, ("step 3", "hand"), 0))
        self.assertEqual(("InvalidSize", "at"), raised(STAGE.exchange, (), 0))
        self.assertEqual(("InvalidSize", "at"), raised(STAGE.exchange, ("hand",), 0))


class Alike(unittest.TestCase):
    def test_all_that_exchanges_lead_to(self):
        chance = random.Random(9)
        many = 0
        for _ in range(60):
            world = random_world(chance, deeds=2)
            stage = Stage(world)
            story = random_story(chance, world, 8)
            met = {story: ()}
            left = [story]
            for one in left:
                for at in range(len(one) - 1):
                    if raised(stage.exchange, one, at) is None and stage.exchange(one, at)[0] == "alike":
                        other = stage.exchange(one, at)[1]
                        if other not in met:
                            met[other] = (*met[one], at)
                            left.append(other)
            if len(met) > 400:
                self.assertEqual(("InvalidSize", "stories"), raised(stage.alike, story))
                self.assertEqual(("InvalidSize", "stories"), raised(stage.least_alike, story))
                continue
            self.assertEqual(tuple(sorted(met)), stage.alike(story))
            least, numbers = stage.least_alike(story)
            self.assertEqual(min(met), least)
            self.assertEqual(len(met[least]), len(numbers))
            rows = itertools.product(range(len(story) - 1), repeat=len(numbers))
            if len(numbers) < 5:
                self.assertEqual(next(row for row in rows if self.led(stage, story, row) == least), numbers)
            many += len(met) > 5
        self.assertGreater(many, 10)

    def led(self, stage, story, numbers):
        for at in numbers:
            if raised(stage.exchange, story, at) is not None or stage.exchange(story, at)[0] != "alike":
                return None
            story = stage.exchange(story, at)[1]
        return story

    def test_by_hand(self):
        stage = Stage(World.read("part a\ndoor d out a open\nkind k\ngo d\nkind m\nrest\nplan\non a"))
        self.assertEqual((("come k", "hand", "step 0"), ("come k", "step 0", "hand"), ("hand", "come k", "step 0")),
                         stage.alike(["come k", "step 0", "hand"]))
        self.assertEqual((("come k", "hand", "step 0"), (0,)), stage.least_alike(("hand", "come k", "step 0")))
        self.assertEqual((("come k", "hand", "step 0"), ()), stage.least_alike(("come k", "hand", "step 0")))
        self.assertEqual(((),), stage.alike(()))
        self.assertEqual(((), ()), stage.least_alike(()))

    def test_just_400(self):
        stage = Stage(World.read("part p\ndoor d out p open\ndoor e p out open\ncell m p kept\nkind a\ngo d\nagain 2\nplan\n"
                                 "drain p\nshut d"))
        story = ("come a", "hand", "come a", "step 0", "come a", "step 1", "hand", "step 0", "step 1")
        self.assertEqual(400, len(stage.alike(story)))
        self.assertEqual(stage.alike(story)[0], stage.least_alike(story)[0])

    def test_limit(self):
        stage = Stage(World.read("part a\nkind k\nagain 0\nkind m\nagain 0\nplan\n" + "\n".join(["on a"] * 12)))
        counts = {}
        for steps in range(7):
            for hands in range(7):
                story = ["come k", *["step 0"] * steps, *["hand"] * hands]
                # The hands stand in any gaps; the steps are one behind another, behind the coming.
                orders = 1
                for at in range(hands):
                    orders = orders * (steps + 1 + at + 1) // (at + 1)
                counts[orders] = story
        self.assertIn(330, counts)
        for orders, story in counts.items():
            if orders <= 400:
                self.assertEqual(orders, len(stage.alike(story)))
            else:
                self.assertEqual(("InvalidSize", "stories"), raised(stage.alike, story))


class Cores(unittest.TestCase):
    def test_by_hand(self):
        self.assertEqual((tuple(range(9)), STORY), STAGE.core(STORY))
        needs = STAGE.needs(STORY)
        self.assertEqual(("harm", ("dark", "a")), needs[4])
        self.assertEqual(((("calm",), ("refused", 4), ("refused", 4), ("refused", 4)), ("calm",)), (needs[:4], needs[8]))

    def test_guests_are_numbered_anew(self):
        stage = Stage(TWO)
        story = ("come m", "come k", "come k", "step 2", "step 1", "step 1", "hand")
        self.assertEqual((6, ("inside", "a")), stage.play(story)[1])
        self.assertEqual(((1, 4, 6), ("come k", "step 0", "hand")), stage.core(story)[:2])
        self.assertEqual((None, None, ("calm",), ("calm",), None, None, ("calm",)), stage.needs(story))

    def test_no_harm(self):
        self.assertIsNone(STAGE.core(STORY[:8]))
        self.assertIsNone(STAGE.needs(story=STORY[:8]))
        self.assertIsNone(STAGE.core(()))
        self.assertIsNone(STAGE.needs([]))
        self.assertIsNone(STAGE.core(["come k"] * 10))

    def test_limit(self):
        long = ("come k", "come k", *STORY[1:])
        self.assertEqual(10, len(long))
        self.assertEqual(((0, *range(2, 10)), STORY), STAGE.core(long))
        self.assertEqual(("InvalidSize", "events"), raised(STAGE.core, ("come k", *long[:1], *long[1:])))
        self.assertEqual(("InvalidSize", "events"), raised(STAGE.core, ["come k"] * 11))
        self.assertEqual(("Refused", 1), raised(STAGE.core, ["come k", "step 7", *["come k"] * 11]))

    def test_as_by_hand(self):
        chance = random.Random(10)
        lesser = others = 0
        for _ in range(120):
            world, story = harmed_story(chance, 9)
            stage, told = Stage(world), with_guests(story)
            harm = stage.play(story)[1][1]
            core = None
            for many in range(1, len(story) + 1):
                for numbers in itertools.combinations(range(len(story)), many):
                    texts = renumbered([told[at] for at in numbers])
                    if core is None and None not in texts and run(world, texts)[1] == (many - 1, harm):
                        core = (numbers, tuple(texts))
            self.assertEqual(core, stage.core(story))
            lesser += len(core[0]) < len(story)
            needs = []
            for at in range(len(story)):
                left = [number for number in range(len(story)) if number != at and not (
                    story[at].startswith("come") and told[number][1] == told[at][1])]
                end = run(world, renumbered([told[number] for number in left]))[1]
                if end is None:
                    needs.append(("calm",))
                elif end[1] is None:
                    needs.append(("refused", left[end[0]]))
                else:
                    needs.append(None if end[1] == harm else ("harm", end[1]))
            self.assertEqual(tuple(needs), stage.needs(list(story)))
            others += any(need is not None and need[0] == "harm" for need in needs)
        self.assertGreater(lesser, 20)
        self.assertGreater(others, 0)


if __name__ == "__main__":
    unittest.main()
