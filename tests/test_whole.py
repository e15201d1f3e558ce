"""[1] to [3], [11], [38], [93]: what holds over the whole program; and every example of DOC.md."""

import random
import unittest

from helpers import raised, random_world
from lightsout.anew import Anew
from lightsout.books import Book
from lightsout.checker import sheet_holds
from lightsout.closed import closed_holds, closed_paper
from lightsout.desk import Desk
from lightsout.harms import check_verdict, comes_with, harm_names, least_deeds
from lightsout.least import least_guests, numbered
from lightsout.live import Live
from lightsout.lots import Lots
from lightsout.orders import in_row, order_paper, order_story, safe_order
from lightsout.plans import World
from lightsout.repair import Repair
from lightsout.stage import Stage
from lightsout.stairs import check_stairs, least_numbers
from lightsout.surely import good_entries, surely
from lightsout.bells import log_told
from lightsout.traces import story_for, trace
from slow import none_of, teller

HALL = World.read("part hall\ndoor gate out hall open\nkind reader\ngo gate\nplan\noff hall")


def worlds(seed, many, most=250):
    chance = random.Random(seed)
    while many:
        world = random_world(chance, rows=3, deeds=3)
        if len(Lots(world, none_of(world), 50000).standings) <= most:
            many -= 1
            yield chance, world


class Both(unittest.TestCase):
    def test_a_story_or_a_paper_and_never_both(self):
        counts = {}
        for _, world in worlds(101, 40):
            caps = none_of(world)
            lots = Lots(world, caps)
            live = Live(world)
            verdicts = Repair(world).verdict(())
            anew = Anew(world)
            self.assertEqual(tuple(sorted(lots.harms)), live.harms)
            self.assertEqual(lots.calm, verdicts[0])
            self.assertEqual(lots.calm, anew.one_fall(0, 0) is None)
            self.assertEqual(lots.calm, safe_order(world, [(at, at + 1) for at in range(len(world.plan.deeds) - 1)]))
            for harm in harm_names(world):
                story, paper = lots.story(harm), closed_paper(world, caps, harm)
                self.assertNotEqual(story is None, paper is None)
                verdict = comes_with(world, harm, caps)
                self.assertTrue(check_verdict(world, harm, caps, verdict))
                self.assertEqual(story is None, verdict.whats is None)
                stairs = least_numbers(world, harm)
                self.assertTrue(check_stairs(world, harm, stairs))
                self.assertEqual(story is None, not stairs.vectors)
                if story is None:
                    self.check_paper(world, harm, caps, paper, verdict.paper)
                else:
                    self.check_story(world, harm, caps, story, verdict.whats, stairs.tales)
                counts[story is None] = counts.get(story is None, 0) + 1
        self.assertGreater(min(counts.values()), 20)

    def check_story(self, world, harm, caps, story, whats, tales):
        for told in (story, whats):
            self.assertTrue(sheet_holds(world, "lots", (harm, caps), told))
            text = numbered(world, told)
            self.assertEqual((len(text) - 1, harm), Stage(world).play(text)[1])
            self.assertTrue(sheet_holds(world, "story", (harm, caps), text))
        for tale in (*tales, least_guests(world, harm)[1]):
            self.assertEqual(harm, Stage(world).play(tale)[1][1])
        book = Book(world)
        self.assertTrue(book.put(("story", (harm, caps), tales[0])))
        self.assertIsNotNone(book.knows("can", (harm, caps)))
        # Nothing closed stands beside it.
        self.assertIsNone(closed_paper(world, caps, None))
        self.assertFalse(closed_holds(world, caps, Lots(world, caps).standings, harm))

    def check_paper(self, world, harm, caps, *papers):
        for paper in papers:
            self.assertTrue(closed_holds(world, caps, paper, harm))
            self.assertTrue(sheet_holds(world, "never", (harm, caps), paper))
        self.assertIsNone(least_guests(world, harm))
        desk = Desk()
        desk.say("world " + world.text().replace("\n", " ; "))
        self.assertEqual("never", desk.say("least " + " ".join(harm)))

    def test_orders_and_plans(self):
        counts = {}
        for chance, world in worlds(102, 40, 120):
            many = len(world.plan.deeds)
            row = chance.sample(range(many), many)
            pairs = list(zip(row, row[1:]))
            made = in_row(world, row)
            self.assertEqual(Lots(made, none_of(made)).calm, safe_order(world, pairs))
            story = order_story(world, pairs)
            if story is None:
                # The standings along one row of all deeds are those of its plan.
                paper = [(house_row, places, len(done)) for house_row, places, done in order_paper(world, pairs)]
                self.assertEqual(set(Lots(made, none_of(made)).standings), set(paper))
                self.assertEqual((True, ()), (Repair(made).verdict(())[0], least_deeds(made, ("inside", "p")).lots[:0]))
            else:
                whats = [("hand",) if what[0] == "hand" else what for what in story[0]]
                self.assertEqual(story[1], Stage(made).play(numbered(made, whats))[1][1])
            counts[story is None] = counts.get(story is None, 0) + 1
        self.assertGreater(min(counts.values()), 5)

    def test_good_entries_keep_the_hand_from_harm(self):
        for chance, world in worlds(103, 30, 120):
            sensors = [("lamp", part) for part in world.house.parts]
            good = good_entries(world, sensors)
            self.assertEqual(len(world.plan.deeds), len(good))
            for at, (word, name) in enumerate(world.plan.deeds):
                if word not in ("off", "drain"):
                    continue
                for entry in good[at][0]:
                    log = [None] * at + [entry]
                    self.assertEqual(True, surely(world, sensors, log, ("nobody", name))[0])

    def test_stories_of_traces_are_played_and_logged(self):
        chance = random.Random(104)
        for _ in range(15):
            world = teller(chance, 2, 8)
            story = story_for(world, "r", "0")
            self.assertEqual("0", trace(world, story, 0))
            self.assertIsNone(Stage(world).play(story)[1])
            self.assertEqual(((True,),), log_told(world, [("bell", "d")], story)[:1])


class Examples(unittest.TestCase):
    def test_the_first_one(self):
        lots = Lots(HALL, (None,))
        self.assertEqual((("inside", "hall"), ("dark", "hall")), lots.harms)

    def test_lists_and_tuples_names_and_positions(self):
        harm = ["inside", "hall"]
        self.assertTrue(comes_with(HALL, harm, (None,)).is_like(comes_with(world=HALL, harm=tuple(harm), caps=(None,))))
        self.assertEqual(("InvalidSize", "caps"), raised(comes_with, HALL, harm, [None]))
        repair = Repair(HALL)
        drain = ("drain", "hall")
        self.assertEqual(repair.least_changes([drain], 1), repair.least_changes(deeds=(drain,), most=1))

    def test_not_iterable(self):
        made = [HALL, HALL.house, HALL.kinds[0], HALL.plan, Lots(HALL, (None,)), Stage(HALL), Live(HALL), Desk(), Book(HALL), Repair(HALL),
                Anew(HALL), comes_with(HALL, ("inside", "hall"), (None,)), least_deeds(HALL, ("inside", "hall")),
                least_numbers(HALL, ("inside", "hall"))]
        for value in made:
            with self.assertRaises(TypeError):
                iter(value)


if __name__ == "__main__":
    unittest.main()
