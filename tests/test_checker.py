"""[1] to [3], [91] to [93]: each kind of sheet, and the same with one thing bent."""

import random
import unittest

from helpers import VALUES, bent, random_world
from lightsout.checker import sheet_holds, wrong_sheets
from lightsout.closed import closed_paper
from lightsout.ends import drains, for_ever, outs, shut_in
from lightsout.least import least_guests, numbered
from lightsout.lots import Lots, first_standing, moves
from lightsout.plans import World

HALL = World.read("part hall\ndoor gate out hall open\ncell pad hall\nkind reader\ngo gate\nsee pad\ngo gate\nplan\nshut gate")
DARK = World.read("part hall\ndoor gate out hall open\nkind k\ngo gate\ngo gate\nkind m\ngo gate\nplan\noff hall\non hall")
ANY = (None,)
Y, A, B = (0, 0, -1, None), (0, 1, 0, None), (0, 2, 0, (0, 0, False))
LIT, SHUT = ((True,), (True,), (0,), (0,), (0,)), ((False,), (True,), (0,), (0,), (0,))
WATCH = ((SHUT, (Y, A, B), A), (SHUT, (Y, A, B), B))
SHEET = (("hall", ANY), ((("step", Y, False), ("hand",)), A, WATCH))
KINDS = ("story", "lots", "never", "calm", "shut in", "comes out", "for ever", "passes")


class Stories(unittest.TestCase):
    def test_stories(self):
        question = (("dark", "hall"), (1, 0))
        story = ("come k", "hand", "step 0")
        self.assertIs(True, sheet_holds(DARK, "story", question, story))
        self.assertIs(True, sheet_holds(world=DARK, kind="story", question=(("dark", "hall"), (None, 3)), value=story))
        self.assertIs(True, sheet_holds(DARK, "story", question, ("hand", "come k", "step 0")))
        for value in [*VALUES, list(story), story[:2], story[1:], (*story, "come k"), (*story, "hand"), (), ("come k", *story),
                      ("come k", "step 0", "hand"), ("come k", "hand", "step 1"), ("come m", "hand", "step 0"),
                      ("come k", "hand", "step 00"), ("come k", "hand", "hand", "hand"), ("come k", None, "step 0"),
                      ("come k", "hand", "hand", "step 0"), *[other for other in bent(story) if other != list(story)]]:
            self.assertIs(False, sheet_holds(DARK, "story", question, value), value)
        self.assertIs(True, sheet_holds(DARK, "story", (("dark", "hall"), (2, 0)), ("come k", *story)))
        self.assertIs(False, sheet_holds(DARK, "story", (("dark", "hall"), (0, None)), story))
        self.assertIs(False, sheet_holds(DARK, "story", (("inside", "hall"), (1, 0)), story))
        self.assertIs(True, sheet_holds(DARK, "story", (("inside", "hall"), (1, 0)), ("come k", "step 0", "hand")))
        self.assertIs(True, sheet_holds(DARK, "story", (("dark", "hall"), (None, 0)), ("come k",) * 300 + story))

    def test_lots(self):
        y, within = (0, 0, -1, None), (0, 1, 0, None)
        question = (("inside", "hall"), (None, 0))
        story = (("step", y, False), ("hand",))
        self.assertIs(True, sheet_holds(DARK, "lots", question, story))
        self.assertIs(True, sheet_holds(DARK, "lots", (("inside", "hall"), (1, 2)), (("step", y, True), ("hand",))))
        self.assertIs(True, sheet_holds(DARK, "lots", question, (("step", y, False), ("step", within, False), ("hand",))))
        for value in [*VALUES, list(story), story[:1], story[1:], (*story, ("hand",)), (), (("step", y, True), ("hand",)),
                      (story[0], story[0], story[1]), (("hand",), ("step", y, False)), (story[0], ["hand"]), (story[0], "hand"),
                      (story[0], ("hand", 0)), (("step", (1, 0, -1, None), False), ("hand",)), (story[0], None, story[1]),
                      (*story, ("step", y, False)), (("step", within, False), *story)]:
            self.assertIs(False, sheet_holds(DARK, "lots", question, value), value)
        # What is told is compared by ==: a step may tell 0 for False.
        self.assertIs(True, sheet_holds(DARK, "lots", question, (("step", y, 0), ("hand",))))

    def test_papers_of_the_other_modules(self):
        chance = random.Random(51)
        many = 0
        for _ in range(60):
            world = random_world(chance, rows=4, deeds=3)
            caps = (None,) * len(world.kinds)
            lots = Lots(world, caps, 20000)
            for harm in lots.harms:
                whats = lots.story(harm)
                self.assertTrue(sheet_holds(world, "lots", (harm, caps), whats))
                self.assertTrue(sheet_holds(world, "story", (harm, caps), numbered(world, whats)))
                least, story = least_guests(world, harm)
                self.assertTrue(sheet_holds(world, "story", (harm, least), story))
                lesser = tuple(max(0, many - 1) for many in least)
                self.assertFalse(sheet_holds(world, "story", (harm, lesser), story))
                for other in lots.harms:
                    self.assertEqual(other == harm, sheet_holds(world, "lots", (other, caps), whats))
                self.assertFalse(sheet_holds(world, "never", (harm, caps), lots.standings))
                self.assertFalse(sheet_holds(world, "calm", (caps,), lots.standings))
                many += 1
            if lots.calm:
                self.assertTrue(sheet_holds(world, "calm", (caps,), lots.standings))
                self.assertTrue(sheet_holds(world, "calm", (caps,), closed_paper(world, caps, None)))
        self.assertGreater(many, 20)


class Closed(unittest.TestCase):
    def holds(self, world, caps, paper, harm, words):
        """Whether a tuple of standings is closed, as [92] tells it."""
        if first_standing(world, caps) not in paper or len(set(paper)) < len(paper):
            return False
        for standing in paper:
            for _, behind, done in moves(world, caps, standing):
                if done is not None:
                    if harm in (None, done):
                        return False
                elif behind not in paper:
                    if any(word in words for word, _ in world.plan.deeds[behind[2]:]):
                        return False
                    if not any(one[0] == behind[0] and one[2] == behind[2] and set(one[1]) >= set(behind[1])
                               and [place for place in one[1] if caps[place[0]] is not None]
                               == [place for place in behind[1] if caps[place[0]] is not None] for one in paper):
                        return False
        return True

    def test_as_by_hand(self):
        chance = random.Random(52)
        seen = {}
        for _ in range(80):
            world = random_world(chance, rows=3, deeds=3)
            caps = tuple(chance.choice([None, None, 0, 1, 2]) for _ in world.kinds)
            standings = Lots(world, caps, 20000).standings
            if len(standings) > 60:
                continue
            harm = (chance.choice(["inside", "dark"]), chance.choice(world.house.parts))
            short = Lots(world, caps, is_short=True).standings
            for number in range(8):
                some = [standings, short][number % 2]
                paper = tuple(one for one in some if number < 2 or chance.random() < 0.95 or one is some[0])
                for kind, question, asked in (
                        ("never", (harm, caps), self.holds(world, caps, paper, harm, ("drain", "off"))),
                        ("calm", (caps,), self.holds(world, caps, paper, None, ("drain",)))):
                    self.assertEqual(asked, sheet_holds(world, kind, question, paper))
                    self.assertIs(False, sheet_holds(world, kind, question, list(paper)))
                    seen[kind, asked] = seen.get((kind, asked), 0) + 1
        self.assertGreater(min(seen.values()), 20)
        self.assertEqual(4, len(seen))

    def test_where_greater_ones_serve(self):
        world = World.read("part p\npart q\ndoor d out p open\nkind k\ngo d\ngo d\nplan\noff q\ndrain q\non q")
        free = World.read("part p\npart q\ndoor d out p open\nkind k\ngo d\ngo d\nplan\noff q\noff q\non q")
        harm = ("inside", "p")
        for told, serves in ((world, {"never": 2, "calm": 2}), (free, {"never": 2, "calm": 0})):
            standings = Lots(told, ANY).standings
            y, within, back = (0, 0, -1, None), (0, 1, 0, None), (0, 2, -1, None)
            for kind, question in (("never", (harm, ANY)), ("calm", (ANY,))):
                self.assertTrue(sheet_holds(told, kind, question, standings))
                for hand in range(4):
                    # He who is back, and nobody within: the standing with somebody within is greater.
                    lesser = [one for one in standings if one[2] == hand and one[1] == (y, back)]
                    self.assertEqual(1, len(lesser))
                    paper = tuple(one for one in standings if one not in lesser)
                    self.assertEqual(hand >= serves[kind], sheet_holds(told, kind, question, paper), (kind, hand))
            self.assertTrue(any(one[1] == (y, within, back) for one in standings))

    def test_bent(self):
        world = World.read("part p\ndoor d out p open\nkind k\ngo d\nplan\nshut d")
        paper = Lots(world, ANY).standings
        for kind, question in (("never", (("dark", "p"), ANY)), ("calm", (ANY,))):
            self.assertIs(True, sheet_holds(world, kind, question, paper))
            for value in [*VALUES, list(paper), paper[1:], (*paper, paper[1]), (*paper, None)]:
                self.assertIs(False, sheet_holds(world, kind, question, value), value)
            for at, standing in enumerate(paper):
                for other in bent(standing):
                    self.assertIs(False, sheet_holds(world, kind, question, (*paper[:at], other, *paper[at + 1:])), other)


class Watches(unittest.TestCase):
    def test_example(self):
        self.assertIs(True, sheet_holds(HALL, "shut in", *SHEET))
        question, (steps, place, watch) = SHEET
        self.assertIs(True, sheet_holds(HALL, "shut in", question, shut_in(HALL, "hall")))
        self.assertIs(True, sheet_holds(HALL, "shut in", question, (steps, A, watch[::-1] + watch)))
        self.assertIs(True, sheet_holds(HALL, "shut in", question, (steps, (0, True, 0, None), watch)))
        wrong = [(steps, B, watch), (steps, Y, watch), (steps[:1], A, watch), (steps[1:], A, watch), (list(steps), A, watch),
                 (steps, A, watch[:1]), (steps, A, watch[1:]), (steps, A, ()), (steps, A, list(watch)), (steps, A),
                 (steps, A, watch, ()), [steps, A, watch], (steps, A, (*watch, (LIT, (Y, A), A))),
                 (steps, A, (*watch, (SHUT, (Y, A), Y))), (steps, A, (*watch, (SHUT, (Y, A, B), Y))),
                 (steps, A, (*watch, (SHUT, (A, Y), A))),
                 (steps, A, (*watch, (SHUT, (Y, B), A))), (steps, A, (*watch, (SHUT, (A,), A))), (steps, [*A], watch),
                 (steps, A, ((SHUT, (Y, A), A), (SHUT, (Y, A, B), B))), (steps, None, watch), (None, A, watch),
                 ((*steps, ("step", A, False)), A, watch[1:]), *VALUES]
        for value in wrong:
            self.assertIs(False, sheet_holds(HALL, "shut in", question, value), value)
        for at, triple in enumerate(watch):
            for other in [told for told in bent(triple[:2]) if isinstance(told, tuple)]:
                self.assertIs(False, sheet_holds(HALL, "shut in", question, (
                    steps, place, (*watch[:at], (*other, triple[2]), *watch[at + 1:]))), other)
        self.assertIs(False, sheet_holds(HALL, "shut in", ("hall", (1,)), SHEET[1]))

    def test_steps_with_a_harm_lead_nowhere(self):
        world = World.read("part p\npart q\ndoor d out p open\ndoor e p q open\nkind k\ngo d\nrest\nkind m\ngo d\ngo e\n"
                           "plan\noff q")
        k, m = (0, 0, -1, None), (1, 0, -1, None)
        steps, place, watch = shut_in(world, "p")
        self.assertIs(True, sheet_holds(world, "shut in", ("p", (None, None)), (steps, place, watch)))
        more = (("step", m, False), *steps)
        self.assertEqual((("step", k, False), ("hand",)), steps)
        triples = [((row, tuple(sorted({*places, (1, 1, 0, None)}))), at) for row, places, at in watch]
        watch = (*watch, *[(row, places, at) for (row, places), at in triples])
        self.assertIs(True, sheet_holds(world, "shut in", ("p", (None, None)), (more, place, watch)))
        dark = (*more, ("step", (1, 1, 0, None), False))
        self.assertIs(True, sheet_holds(world, "lots", (("dark", "q"), (None, None)), dark))
        self.assertIs(False, sheet_holds(world, "shut in", ("p", (None, None)), (dark, place, watch)))
        drained = World.read(world.text() + "\ndrain p")
        steps, stay = for_ever(drained, "p")
        self.assertIs(True, sheet_holds(drained, "for ever", ("p", (None, None)), (steps, stay)))
        steps, stay = (("step", k, False), ("step", m, False), ("hand",)), [(row, lot) for row, lot in stay]
        stay = tuple(dict.fromkeys([*stay, *[(row, tuple(sorted({*lot, (1, 1, 0, None)}))) for row, lot in stay]]))
        self.assertIs(True, sheet_holds(drained, "for ever", ("p", (None, None)), (steps, stay)))
        dark = (*steps, ("step", (1, 1, 0, None), False))
        self.assertIs(False, sheet_holds(drained, "for ever", ("p", (None, None)), (dark, stay)))

    def test_no_greater_one_serves_for_ways(self):
        world = World.read("part p\npart q\ndoor d out p open\nkind k\ngo d\ngo d\nkind m\nopen d\nplan\ndrain q\nshut d")
        caps = (None, None)
        for kind, make, asks in (("comes out", outs, lambda one: one[2] == 2), ("passes", drains, lambda one: one[2] == 0)):
            part = "p" if kind == "comes out" else "q"
            standings, ways = make(world, part)
            self.assertIs(True, sheet_holds(world, kind, (part, caps), (standings, ways)))
            told = list(ways)
            rows = []
            for one in standings:
                many = 0
                if asks(one):
                    many = len({place for place in one[1] if place[2] == 0}) if kind == "comes out" else 1
                rows.append((one, [told.pop(0) for _ in range(many)]))
            for at in range(1, len(rows)):
                left = rows[:at] + rows[at + 1:]
                value = (tuple(one for one, _ in left), tuple(way for _, some in left for way in some))
                self.assertIs(False, sheet_holds(world, kind, (part, caps), value), (kind, rows[at]))

    def test_counted(self):
        first = ((("step", Y, True), ("hand",)), A, ((SHUT, (A,), A), (SHUT, (B,), B)))
        self.assertIs(True, sheet_holds(HALL, "shut in", ("hall", (1,)), first))
        self.assertIs(False, sheet_holds(HALL, "shut in", ("hall", (2,)), first))
        two = (first[0], A, ((SHUT, (Y, A), A), (SHUT, (Y, B), B)))
        self.assertIs(True, sheet_holds(HALL, "shut in", ("hall", (2,)), two))
        inside = (("step", Y, True), ("step", Y, True), ("hand",))
        triples = tuple((SHUT, lot, place) for lot in ((A, A), (A, B), (B, B)) for place in {*lot})
        self.assertIs(True, sheet_holds(HALL, "shut in", ("hall", (2,)), (inside, A, triples)))
        for at in range(len(triples)):
            self.assertIs(False, sheet_holds(HALL, "shut in", ("hall", (2,)), (inside, A, triples[:at] + triples[at + 1:])))

    def test_ways_out(self):
        world = World.read("part p\ndoor d out p open\nkind k\ngo d\ngo d\nkind m\nopen d\nrest\nplan\nshut d")
        standings, ways = outs(world, "p")
        question = ("p", (None, None))
        self.assertIs(True, sheet_holds(world, "comes out", question, (standings, ways)))
        wrong = [(standings, list(ways)), (list(standings), ways), (standings[1:], ways), (standings, ways[1:]),
                 (standings, (*ways, ())), (standings, ways[::-1]), (standings,), (standings, ways, ()), [standings, ways],
                 (standings[::-1], ways), (standings, ((), *ways[1:])), (standings, (None, *ways[1:])), *VALUES,
                 (standings, (list(ways[0]), *ways[1:])), (standings, (ways[0][:-1], *ways[1:])),
                 (standings, ((*ways[0], ("watched",)), *ways[1:])), (standings, ((*ways[0], ("hand",)), *ways[1:])),
                 (standings, ((("watched",),) * 3, *ways[1:])), (standings, (("watched",), *ways[1:])),
                 (standings, ((("hand",), *ways[0]), *ways[1:]))]
        for value in wrong:
            if value != (standings, ways):
                self.assertIs(False, sheet_holds(world, "comes out", question, value), value)
        self.assertIs(False, sheet_holds(world, "comes out", ("p", (None, 1)), (standings, ways)))
        # By a way all others may leave a place, too.
        more = (("step", (1, 0, -1, None), False), ("step", (0, 1, 0, None), True), ("watched",))
        at = ways.index((("step", (1, 0, -1, None), False), ("watched",)))
        self.assertIs(True, sheet_holds(world, "comes out", question, (standings, (*ways[:at], more, *ways[at + 1:]))))
        most = (*more[:2], ("step", (0, 2, -1, None), True), ("watched",))
        self.assertIs(False, sheet_holds(world, "comes out", question, (standings, (*ways[:at], most, *ways[at + 1:]))))
        # A closed tuple must have what moves lead to itself here, not a greater one.
        short = Lots(world, (None, None), is_short=True).standings
        self.assertLess(len(short), len(standings))
        asked = [one for one in short if one[2] == 1 for place in one[1] if place[2] == 0]
        some = [ways[[one for one in standings if one[2] == 1 for place in one[1] if place[2] == 0].index(one)] for one in asked]
        self.assertIs(False, sheet_holds(world, "comes out", question, (short, tuple(some))))

    def test_for_ever_and_passes(self):
        held = World.read("part p\ndoor d out p open\nkind k\ngo d\ngo d\nplan\nshut d\ndrain p")
        y, within, back = (0, 0, -1, None), (0, 1, 0, None), (0, 2, -1, None)
        shut = ((False,), (True,), (), (), ())
        steps, stay = (("step", y, False), ("hand",)), ((shut, (y, within)),)
        question = ("p", ANY)
        self.assertEqual((steps, stay), for_ever(held, "p"))
        self.assertIs(True, sheet_holds(held, "for ever", question, (steps, stay)))
        self.assertIs(True, sheet_holds(held, "for ever", question, (steps, stay * 2)))
        self.assertIs(True, sheet_holds(held, "for ever", question, (steps, (*stay, (shut, (y, within, back))))))
        wrong = [(steps, ()), (steps, list(stay)), (steps[1:], stay), (steps[:1], stay), (steps, (*stay, (shut, (y,)))),
                 (steps, (*stay, (((True,), *shut[1:]), (y, within)))), (steps, (*stay, (shut, (within, y)))), (steps, stay, ()),
                 (steps,), [steps, stay], (list(steps), stay), (steps, ((shut, (y, within, back)),)), *VALUES,
                 *[(steps, (other,)) for other in bent(stay[0])], ((steps[1], steps[0]), stay)]
        for value in wrong:
            self.assertIs(False, sheet_holds(held, "for ever", question, value), value)
        late = World.read("part p\npart q\ndoor d out p open\nkind k\ngo d\ngo d\nplan\nshut d\non p\ndrain p\ndrain q")
        steps, stay = for_ever(late, "p")
        self.assertIs(True, sheet_holds(late, "for ever", question, (steps, stay)))
        for some in (steps[:-1], (*steps, ("hand",))):
            self.assertIs(False, sheet_holds(late, "for ever", question, (some, stay)))
        self.assertIs(False, sheet_holds(late, "for ever", ("q", ANY), (steps, stay)))
        open_door = World.read("part p\ndoor d out p open\nkind k\ngo d\ngo d\nplan\ndrain p\nshut d")
        standings, ways = drains(open_door, "p", (2,))
        question = ("p", (2,))
        self.assertIs(True, sheet_holds(open_door, "passes", question, (standings, ways)))
        at = [len(way) for way in ways].index(2)
        empty = [len(way) for way in ways].index(0)
        wrong = [(standings, list(ways)), (list(standings), ways), (standings[1:], ways), (standings, ways[1:]), *VALUES,
                 (standings, (*ways, ())), (standings, ways, ()), (standings,), [standings, ways],
                 (standings, (*ways[:at], ways[at][:1], *ways[at + 1:])), (standings, (*ways[:at], (), *ways[at + 1:])),
                 (standings, (*ways[:at], list(ways[at]), *ways[at + 1:])),
                 (standings, (*ways[:at], (*ways[at], ("step", y, True)), *ways[at + 1:])),
                 (standings, (*ways[:at], (("watched",),) * 2, *ways[at + 1:])),
                 (standings, (*ways[:at], (("hand",), *ways[at]), *ways[at + 1:])),
                 (standings, (*ways[:empty], (("step", y, True), ("step", within, True)), *ways[empty + 1:]))]
        for value in wrong:
            self.assertIs(False, sheet_holds(open_door, "passes", question, value), value)
        # All may leave a place on the way, and steps may go there first.
        standings, ways = drains(open_door, "p")
        self.assertIs(True, sheet_holds(open_door, "passes", ("p", ANY), (standings, ways)))
        self.assertTrue(any(what[2] for way in ways for what in way))

    def test_never_both(self):
        chance = random.Random(53)
        seen = {}
        for _ in range(60):
            world = random_world(chance, rows=3, deeds=3)
            caps = tuple(chance.choice([None, None, 1, 2]) for _ in world.kinds)
            if len(Lots(world, caps, 20000).standings) > 400:
                continue
            for part in world.house.parts:
                for (no, shut), (yes, out) in ((("shut in", shut_in), ("comes out", outs)), (("for ever", for_ever), ("passes", drains))):
                    one, other = shut(world, part, caps), out(world, part, caps)
                    self.assertEqual(one is None, other is not None)
                    self.assertEqual(one is not None, sheet_holds(world, no, (part, caps), one))
                    self.assertEqual(other is not None, sheet_holds(world, yes, (part, caps), other))
                    seen[no, one is None] = seen.get((no, one is None), 0) + 1
                    if one is not None and no == "for ever":
                        for number in range(len(one[1])):
                            left = one[1][:number] + one[1][number + 1:]
                            self.assertFalse(sheet_holds(world, no, (part, caps), (one[0], left)))
                    if one is not None and no == "shut in":
                        some = [triple for triple in one[2] if chance.random() < 0.9]
                        self.assertEqual(self.watch_holds(world, caps, one, some),
                                         sheet_holds(world, no, (part, caps), (*one[:2], tuple(some))))
        self.assertGreater(min(seen.values()), 5)

    def watch_holds(self, world, caps, sheet, watch):
        from test_ends import watched_by_hand
        standing = first_standing(world, caps)
        for what in sheet[0]:
            standing = next(behind for told, behind, harm in moves(world, caps, standing) if told == what and harm is None)

        def is_in(triple):
            for row, places, place in watch:
                if row == triple[0] and place == triple[2] and set(places) >= set(triple[1]):
                    if [one for one in places if caps[one[0]] is not None] == [
                            one for one in triple[1] if caps[one[0]] is not None]:
                        return True
            return False

        due = [(*standing[:2], sheet[1])]
        for triple in watch:
            due += [behind for _, behind in watched_by_hand(world, caps, triple)]
        return all(is_in(triple) for triple in due)


class AnyValues(unittest.TestCase):
    def test_kinds_and_questions(self):
        good = {"story": (("dark", "hall"), ANY), "calm": (ANY,), "shut in": ("hall", ANY)}
        for kind in KINDS:
            question = good.get(kind, good["shut in" if kind in KINDS[5:] else "story"])
            for value in VALUES:
                self.assertIs(False, sheet_holds(HALL, kind, question, value))
                self.assertIs(False, sheet_holds(HALL, kind, value, value))
        for kind in [*VALUES, "Story", "shut", "closed", "", "can", ("calm",)]:
            for question in good.values():
                self.assertIs(False, sheet_holds(HALL, kind, question, Lots(HALL, ANY).standings))

    def test_bent_questions(self):
        paper = Lots(HALL, ANY).standings
        self.assertIs(True, sheet_holds(HALL, "never", (("dark", "hall"), ANY), paper))
        for question in [(("dark", "out"), ANY), (("dark", "pad"), ANY), (("lost", "hall"), ANY), (["dark", "hall"], ANY),
                         (("shut in", "hall"), ANY), (("dark",), ANY), (("dark", "hall", "hall"), ANY), ("dark", ANY),
                         (("dark", "hall"), None), (("dark", "hall"), [None]), (("dark", "hall"), (None, None)), (ANY,),
                         (("dark", "hall"), (True,)), (("dark", "hall"), (-1,)), (("dark", "hall"), ()), ("hall", ANY),
                         [("dark", "hall"), ANY], (("dark", "hall"), ANY, ANY), (None, ANY), ((), ANY), (ANY, ANY)]:
            self.assertIs(False, sheet_holds(HALL, "never", question, paper), question)
        self.assertIs(True, sheet_holds(HALL, "calm", (ANY,), paper))
        for question in [ANY, (None,), ((True,),), ((None, None),), ([None],), [ANY], (ANY, ANY), (("dark", "hall"), ANY), ()]:
            self.assertIs(False, sheet_holds(HALL, "calm", question, paper), question)
        for question in [("out", ANY), ("pad", ANY), ("gate", ANY), (0, ANY), (None, ANY), (("hall",), ANY), ["hall", ANY],
                         ("hall", [None]), ("hall", None), ("hall", (True,)), ("hall",), ("hall", ANY, ANY), (ANY,)]:
            self.assertIs(False, sheet_holds(HALL, "shut in", question, SHEET[1]), question)

    def test_wrong_sheets(self):
        good, calm = ("shut in", *SHEET), ("calm", (ANY,), Lots(HALL, ANY).standings)
        self.assertEqual((), wrong_sheets(HALL, []))
        self.assertEqual((), wrong_sheets(world=HALL, sheets=(good, calm, good)))
        self.assertEqual((0, 2, 3, 4, 5), wrong_sheets(HALL, [list(good), calm, good[:2], None, (*good, 0),
                                                              ("comes out", *SHEET), good]))
        self.assertEqual(tuple(range(len(VALUES))), wrong_sheets(HALL, VALUES))
        self.assertEqual((0, 1), wrong_sheets(HALL, (("calm", (ANY,), calm[2][1:]), ("never", (ANY,), calm[2]))))


if __name__ == "__main__":
    unittest.main()
