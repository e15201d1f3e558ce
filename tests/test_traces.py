"""[1] to [3], [57], [58]: traces."""

import random
import unittest

from helpers import VALUES, raised, random_world
from lightsout.guests import Kind
from lightsout.house import House
from lightsout.plans import Plan, World
from lightsout.stage import Stage
from lightsout.traces import is_seen, story_for, trace
from slow import TooMuch, after, due, first_sight, shown, teller, words_from

TEXT = "part p\ndoor d out p open\ncell c p\ncell e p\nkind w\ngo d\nset c 1\nset e 2\ngo d\nkind r\ngo d\nsee e\nsee c\nplan\n"
WORLD = World.read(TEXT + "drain p\noff p\non p")


def kept(world, *names):
    return world.with_house(world.house.with_kept(names))


class Traces(unittest.TestCase):
    def test_by_hand(self):
        story = ["come r", "step 0", "come w", "step 1", "step 0", "step 1", "step 1", "step 0"]
        self.assertEqual("0 1:0 2:1", trace(WORLD, story, 0))
        self.assertEqual("0 1 2", trace(world=WORLD, story=tuple(story), guest=1))
        self.assertEqual("", trace(WORLD, ["come r"], 0))
        self.assertEqual("0 1:2", trace(WORLD, ["come w", *["step 0"] * 3, "come r", "step 1", "step 1"], 1))
        self.assertEqual("0", trace(WORLD, ["come w", "hand", "hand", "hand", "step 0"], 0))

    def test_again_and_when(self):
        world = World.read("part p\ndoor d out p open\ncell c p\nkind k\ngo d\nsee c\nwhen 0 3\nuse c\nagain 1\nplan")
        story = ["come k", *["step 0"] * 6]
        self.assertEqual("0 1:0 2 3 4 1:0", trace(world, story, 0))

    def test_errors(self):
        for value in VALUES:
            if not isinstance(value, (list, tuple)):
                self.assertEqual(("InvalidStory", -1), raised(trace, WORLD, value, 0), value)
            self.assertEqual(("InvalidStory", 1), raised(trace, WORLD, ["step 9", value], None), value)
            if value != 0 or isinstance(value, bool):
                self.assertEqual(("InvalidSize", "guest"), raised(trace, WORLD, ["come r"], value), value)
        for event in ("come p", "come", "step 00", "step 1000", "step -1", "hand 0", "Hand", "come r ", "step 0:1"):
            self.assertEqual(("InvalidStory", 0), raised(trace, WORLD, [event, "step 5"], 0), event)
        self.assertEqual(("InvalidSize", "guest"), raised(trace, WORLD, [], 0))
        self.assertEqual(("InvalidSize", "guest"), raised(trace, WORLD, ["come r", "come w"], 2))
        for story, at in [(["step 0"], 0), (["come r", "step 1"], 1), (["come r", *["step 0"] * 4], 4),
                          (["come r", "step 0", "hand"], 2), (["hand"] * 4, 3), (["come r", "hand", "hand", "step 0"], 3),
                          (["come r", "hand", "hand", "step 0", "step 7"], 3)]:
            self.assertEqual(("Refused", at), raised(trace, WORLD, story, 0), story)
            self.assertEqual(("InvalidStory", len(story)), raised(trace, WORLD, [*story, "away"], None), story)

    def test_more_than_two_hundred_events(self):
        world = World.read("part p\ndoor d out p open\nkind k\ngo d\ngo d\nagain 0\nplan")
        story = ["come k", *["step 0"] * 300]
        self.assertEqual(300, len(trace(world, story, 0).split(" ")))

    def test_as_played(self):
        chance = random.Random(81)
        for _ in range(60):
            world = random_world(chance, rows=4, deeds=4)
            stage, story = Stage(world), []
            for _ in range(14):
                told = [event for event, harm in stage.may(stage.play(story)[0][-1]) if harm is None]
                story.append(chance.choice(told))
            standings = stage.play(story)[0]
            words = {}
            for event, (row, places, _) in zip(story, standings):
                if event.startswith("step"):
                    guest = int(event[5:])
                    words.setdefault(guest, []).append(shown(world, row, places[guest]))
            for guest in range(len(standings[-1][1])):
                text = trace(world, story, guest)
                self.assertEqual(" ".join(words.get(guest, [])), text)
                # Whoever has a trace: it is seen, and told for guest 0.
                name = world.kinds[standings[-1][1][guest][0]].name
                if len(words.get(guest, [])) <= 12:
                    self.assertTrue(is_seen(world, name, text))
                    self.assertEqual(text, trace(world, story_for(world, name, text), 0))


class Seen(unittest.TestCase):
    def test_by_hand(self):
        for text, by in [("", True), ("0", True), ("0 1:0 2:0", True), ("0 1:0 2:1", True), ("0 1:2 2:1", True),
                         ("0 1:2 2:0", False), ("0 1:1", False), ("0 1", False), ("0:0", False), ("1:0", False), ("0 2:0", False),
                         ("0 1:0 2:0 3", False), ("9", False)]:
            self.assertIs(by, is_seen(WORLD, "r", text), text)
            story = story_for(WORLD, "r", text)
            self.assertEqual(by, story is not None)
            if by:
                self.assertEqual((text, "come r"), (trace(WORLD, story, 0), story[0]))
                self.assertIsNone(Stage(WORLD).play(story)[1])
        self.assertIs(True, is_seen(world=WORLD, kind="w", text="0 1 2 3"))
        self.assertIs(False, is_seen(WORLD, "w", "0 1:0"))
        # What was not kept is gone; he sees it only because an off lies between.
        self.assertIs(True, is_seen(kept(WORLD, "e"), "r", "0 1:2 2:0"))
        story = story_for(world=kept(WORLD, "e"), kind="r", text="0 1:2 2:0")
        self.assertIn("hand", story)
        self.assertEqual("0 1:2 2:0", trace(kept(WORLD, "e"), story, 0))

    def test_one_alone_and_many(self):
        # A guest alone sees what he has set himself; one who sees 1 ahead of it comes behind another one.
        world = World.read("part p\ndoor d out p open\ncell c p\nkind k\ngo d\nsee c\nset c 1\nsee c\nplan")
        self.assertEqual(("come k", *["step 0"] * 4), story_for(world, "k", "0 1:0 2 3:1"))
        story = story_for(world, "k", "0 1:1")
        self.assertEqual(2, len([event for event in story if event.startswith("come")]))
        self.assertFalse(is_seen(world, "k", "0 1:0 2 3:0"))
        # Three others must set it between, one behind another.
        world = World.read("part p\ndoor d out p open\ncell c p\nkind k\ngo d\nset c 1\nset c 0\nkind r\ngo d\nsee c\nsee c\nsee c\n"
                           "see c\nplan")
        text = "0 1:1 2:0 3:1 4:0"
        self.assertEqual(text, trace(world, story_for(world, "r", text), 0))

    def test_a_story_without_a_harm(self):
        # He can only be in ahead of the off if he comes out again: else it would do a harm.
        world = World.read("part p\ndoor d out p open\ncell c p\nkind k\ngo d\nsee c\ngo d\ngo d\nsee c\nkind s\ngo d\nset c 1\ngo d\n"
                           "plan\noff p\non p")
        story = story_for(world, "k", "0 1:1 2 3 4:0")
        self.assertIsNone(Stage(world).play(story)[1])
        self.assertEqual("0 1:1 2 3 4:0", trace(world, story, 0))
        stays = World.read("part p\ndoor d out p open\ncell c p\nkind k\ngo d\nsee c\nsee c\nkind s\ngo d\nset c 1\ngo d\nplan\noff p\n"
                           "on p")
        self.assertFalse(is_seen(stays, "k", "0 1:1 2:0"))
        told = stays.with_plan([("drain", "p"), ("off", "p"), ("on", "p")])
        self.assertFalse(is_seen(told, "k", "0 1:1 2:0"))

    def test_who_never_comes_out_bars_a_drain(self):
        # By f to q only when the drain has been done: a must have come out, and nobody else be in.
        house = "part p\npart q\ndoor d out p open\ndoor e p out {0}\ndoor f out q shut\ncell c p\n"
        other = "kind b\ngo d\nset c 1\nplan\nshut d\n"
        for door, rows, plan, text in [("shut", "go d\ngo e\ngo f", "open e\ndrain p\nopen f", "0 1 2"),
                                       ("shut", "go d\nopen e\ngo e\ngo f", "drain p\nopen f", "0 1 2 3"),
                                       ("open", "go d\nsee c\nwhen 0 4\nrest\ngo e\ngo f", "drain p\nopen f", "0 1:0 2 4 5"),
                                       ("open", "go d\nagain 3\nrest\ngo e\ngo f", "drain p\nopen f", "0 1 3 4"),
                                       ("open", "go d\nuse c\nwait c 0\ntell c\ngo e\ngo f", "drain p\nopen f", "0 1 2 3 4 5")]:
            world = World.read(house.format(door) + "kind a\n" + rows + "\n" + other + plan)
            self.assertTrue(is_seen(world, "a", text), world.text())
            self.assertEqual(text, trace(world, story_for(world, "a", text), 0))
            away = World.read(world.text().replace("\nopen f", ""))
            self.assertFalse(is_seen(away, "a", text))
            self.assertFalse(is_seen(world, "b", "0 1 2"))
        stays = World.read(house.format("open") + "kind a\ngo d\nwait c 1\ngo e\ngo f\n" + other + "drain p\nopen f")
        self.assertTrue(is_seen(stays, "a", "0 1 2"))
        self.assertFalse(is_seen(stays, "a", "0 1 2 3"))

    def test_an_off_never_passes_over_somebody(self):
        world = World.read("part p\npart q\ndoor d out p open\ndoor e p q shut\nkind k\ngo d\ngo e\nplan\noff p\nopen e")
        self.assertFalse(is_seen(world, "k", "0 1"))
        self.assertTrue(is_seen(world.with_plan([("open", "e"), ("off", "p")]), "k", "0 1"))
        self.assertTrue(is_seen(world.with_plan([("off", "p"), ("on", "p"), ("open", "e")]), "k", "0 1"))

    def test_who_has_set_must_come_out_step_by_step(self):
        house = "part p\ndoor d out p open\ncell c p\n"
        read = "kind r\ngo d\nsee c\ngo d\ngo d\nsee c\nplan\ndrain p\noff p\non p"
        text = "0 1:1 2 3 4:0"
        for rows, comes_out in [("go d\nset c 1\nsee c\ngo d", True), ("go d\nset c 1\nsee c\nsee c\ngo d", True),
                                ("go d\nset c 1\nsee c\nrest", False), ("go d\nset c 1\nsee c\nsee c", False),
                                ("go d\nset c 1\nsee c\nagain 2", False), ("go d\nset c 1\nsee c\nwhen 1 2\ngo d", False),
                                ("go d\nset c 1\nsee c\nwhen 0 2\ngo d", True)]:
            world = World.read(house + "kind w\n" + rows + "\n" + read)
            story = story_for(world, "r", text)
            self.assertEqual((comes_out, comes_out), (is_seen(world, "r", text), story is not None), rows)
            if comes_out:
                self.assertEqual(text, trace(world, story, 0))

    def test_who_jumps_to_a_row_that_sets(self):
        house = "part p\ndoor d out p open\ncell c p\n"
        read = "kind b\ngo d\nsee c\nplan"
        for rows in ("go d\nagain 3\nrest\nset c 1", "go d\nsee c\nwhen 0 4\nrest\nset c 1", "again 2\nrest\nagain 4\nrest\ngo d\nset c 1"):
            world = World.read(house + "kind a\n" + rows + "\n" + read)
            self.assertTrue(is_seen(world, "b", "0 1:1"), rows)
            self.assertEqual("0 1:1", trace(world, story_for(world, "b", "0 1:1"), 0))
        for rows in ("go d\nagain 4\nrest\nset c 1", "go d\nrest\nset c 1", "go d\nsee c\nwhen 1 4\nrest\nset c 1"):
            self.assertFalse(is_seen(World.read(house + "kind a\n" + rows + "\n" + read), "b", "0 1:1"), rows)

    def test_a_dark_part_and_a_lost_cell(self):
        dark = World.read("part p\ndoor d out p open\nkind k\ngo d\nplan\noff p")
        self.assertTrue(is_seen(dark, "k", "0"))
        lost = World.read("part p\ndoor d out p open\ncell c p\nkind k\ngo d\nset c 1\ntell c\ngo d\nkind r\ngo d\nsee c\nplan\n"
                          "drain p\noff p\non p")
        self.assertTrue(is_seen(lost, "r", "0 1:1"))
        self.assertTrue(is_seen(lost, "r", "0 1:0"))

    def test_as_a_slow_search(self):
        counts = {}
        chance = random.Random(82)
        for number in range(70):
            world = teller(chance, 2, 7) if number % 2 else random_world(chance, rows=4, deeds=4)
            kind = chance.randrange(len(world.kinds))
            name, text = world.kinds[kind].name, []
            try:
                sights = due(world, [first_sight(world, kind)], 1500)
                for _ in range(5):
                    words = words_from(world, sights)
                    for word in [f"{row}{end}" for row in range(6) for end in ("", ":0", ":1", ":2")]:
                        told = " ".join([*text, word])
                        self.assertIs(word in words, is_seen(world, name, told), (world.text(), told))
                        counts[word in words] = counts.get(word in words, 0) + 1
                        story = story_for(world, name, told)
                        self.assertEqual(word in words, story is not None)
                        if story is not None:
                            self.assertEqual(told, trace(world, story, 0))
                    if not words:
                        break
                    text.append(chance.choice(words))
                    sights = due(world, after(world, sights, text[-1]), 1500)
            except TooMuch:
                counts["big"] = counts.get("big", 0) + 1
        self.assertGreater(counts[True], 100)
        self.assertLess(counts.get("big", 0), 35)

    def test_large_worlds(self):
        kinds = [Kind("a", [("go", "d"), ("set", "c", 1), ("see", "m"), ("set", "s", 2), ("go", "d")]),
                 Kind("b", [("go", "d"), ("see", "c"), ("see", "s"), ("go", "d")])]
        cells = [(name, "p", False) for name in "cms"]
        plan = Plan([("drain", "p"), ("off", "p"), ("on", "p"), ("drain", "p"), ("off", "p"), ("on", "p")])
        world = World(House(["p"], [("d", "out", "p", True)], cells), kinds, plan)
        self.assertTrue(is_seen(world, "b", "0 1:1 2:2 3"))
        self.assertTrue(is_seen(world, "b", "0 1:1 2:0 3"))
        self.assertTrue(is_seen(world, "b", "0 1:0 2:2 3"))
        self.assertFalse(is_seen(world, "b", "0 1:2 2:2 3"))

    def test_errors(self):
        for call in (is_seen, story_for):
            for value in VALUES:
                self.assertEqual(("NoName", value), raised(call, WORLD, value, None), value)
                if value != "":
                    self.assertEqual(("InvalidText", 0), raised(call, WORLD, "r", value), value)
            for text in (" ", "0 ", " 0", "0  1", "00", "10", "0:3", "0:", ":0", "0:00", "0:1:1", "0,1", "0\n1", "a", "1 2:x", "-1",
                         "\u0661", "0 \u0661"):
                self.assertEqual(("InvalidText", 0), raised(call, WORLD, "r", text), text)
            self.assertEqual(("NoName", "c"), raised(call, world=WORLD, kind="c", text=0))
            self.assertIsNone(raised(call, WORLD, "r", "9 8:2 7"))


if __name__ == "__main__":
    unittest.main()
