"""[1] to [3], [49] to [56]: plans without a fixed order."""

import itertools
import random
import unittest

from helpers import NESTED, VALUES, bent, raised, random_world
from lightsout.guests import Kind, first_place
from lightsout.hands import all_pairs, cover_pairs, hand_waits, least_hands, order_of_cut, rows_along, widest_lot
from lightsout.house import first_row
from lightsout.lots import guest_moves
from lightsout.orders import (in_row, least_cuts, least_orders, must_keep, needful_pairs, order_paper, order_paper_holds,
                              order_passes, order_story, order_story_holds, safe_order)
from lightsout.plans import World, deed
from slow import come, large_world, mutated, none_of

HOUSE = "part hall\ndoor d out hall open\ndoor e hall out open"
WORLD = World.read(HOUSE + "\nkind g\ngo d\ngo e\nplan\nshut d\nshut d\ndrain hall\noff hall")
P = ((0, 2), (1, 2), (2, 3))
TEXTS = "kind g\ngo d\nsee c\nset c 1\nset e 2\ngo d\n"
# Above 5,000 standings of guests alone.
BIG = World.read("part p\ndoor d out p open\ncell c p\ncell e p\n" + TEXTS + TEXTS.replace("kind g", "kind h") +
                 "plan\ndrain p\ndrain p")
OFTEN = WORLD.with_plan([("shut", "d")] * 7)


def orders_of(many):
    """All orders, as the pairs that follow."""
    pairs = [(one, other) for one in range(many) for other in range(many) if one != other]
    found = set()
    for size in range(len(pairs) + 1):
        for lot in itertools.combinations(pairs, size):
            if all((one, last) in lot for one, mid in lot for other, last in lot if mid == other):
                found.add(lot)
    return sorted(found)


def events(world, later, standing):
    """All events of [51]: what, the standing behind it, and the harm or None."""
    row, places, done = standing
    for what, behind, lot, harm in guest_moves(world.house, world.kinds, none_of(world), row, places):
        yield what, (behind, lot, done), harm
    for at, told in enumerate(world.plan.deeds):
        if at in done or any(other == at and one not in done for one, other in later):
            continue
        made = deed(world.house, row, places, told)
        if made is not None:
            lot = tuple(sorted(set(made[1]), key=lambda place: (place[:3], place[3] or (-1, -1, False))))
            yield ("hand", at), (made[0], lot, tuple(sorted((*done, at)))), made[2]


def first(world):
    return first_row(world.house), tuple(first_place(at) for at in range(len(world.kinds))), ()


def paper_by_hand(world, pairs, paper):
    """Whether a tuple of standings is a paper, as [52] tells it."""
    later = all_pairs(pairs)
    if first(world) not in paper or len(set(paper)) < len(paper):
        return False
    for standing in paper:
        for _, behind, harm in events(world, later, standing):
            if harm is not None:
                return False
            if behind in paper:
                continue
            if any(told[0] == "drain" and at not in behind[2] for at, told in enumerate(world.plan.deeds)):
                return False
            if not any((behind[0], behind[2]) == (row, done) and set(behind[1]) <= set(lot) for row, lot, done in paper):
                return False
    return True


def story_by_hand(world, pairs, story, ended):
    standing, last = first(world), None
    for event in story:
        found = [told for told in events(world, all_pairs(pairs), standing) if told[0] == event]
        if last is not None or not found:
            return False
        _, standing, last = found[0]
    return last is not None and last == ended


def searched(world, pairs):
    """The harms, how few events do one, and whether all deeds can be done."""
    later = all_pairs(pairs)
    met = {first(world): 0}
    harms, fewest = set(), None
    for standing in (left := list(met)):
        for _, behind, harm in events(world, later, standing):
            if harm is not None:
                harms.add(harm)
                fewest = met[standing] + 1 if fewest is None else fewest
            elif behind not in met:
                met[behind] = met[standing] + 1
                left.append(behind)
    return harms, fewest, any(len(standing[2]) == len(world.plan.deeds) for standing in met)


def worlds(seed, many, deeds):
    chance = random.Random(seed)
    for _ in range(many):
        world = random_world(chance, rows=3, deeds=deeds)
        if chance.random() < 0.5:
            house = world.house
            plan = [("drain", "p"), ("off", "p"), ("shut", house.doors[0][0]), *world.plan.deeds][:deeds]
            chance.shuffle(plan)
            world = world.with_plan(plan)
        yield chance, world


class Rows(unittest.TestCase):
    def test_example(self):
        self.assertEqual((((0, 2), (2, 3)), ((1, 2), (2, 3))), least_orders(WORLD))
        self.assertEqual((((0, 2), (1, 2)), ((2, 3),)), must_keep(WORLD, P))
        self.assertEqual(((1, 3), (2, 3)), least_cuts(WORLD))
        self.assertEqual(((0,), (1, 2, 3)), least_hands(4, P))
        self.assertEqual((0, 1), widest_lot(4, P))
        self.assertEqual(((0, 2),), hand_waits(4, P, ((0,), (1, 2, 3))))
        self.assertEqual(((2, 3),), needful_pairs(WORLD, P))
        self.assertIs(True, safe_order(WORLD, P))
        self.assertIs(True, order_passes(WORLD, P))

    def test_in_row(self):
        world = in_row(WORLD, (3, 0, 2, 1))
        self.assertEqual((("off", "hall"), ("shut", "d"), ("drain", "hall"), ("shut", "d")), world.plan.deeds)
        self.assertEqual((WORLD.house, WORLD.kinds), (world.house, world.kinds))
        self.assertEqual(WORLD, in_row(world=WORLD, row=[0, 1, 2, 3]))
        self.assertEqual(WORLD.with_plan([]), in_row(WORLD.with_plan([]), ()))

    def test_in_row_errors(self):
        for value in VALUES:
            if not isinstance(value, (list, tuple)):
                self.assertEqual(("InvalidOrder", 0), raised(in_row, WORLD, value), value)
            if isinstance(value, bool) or value not in (1, 2):
                self.assertEqual(("InvalidOrder", 1), raised(in_row, WORLD, [0, value]), value)
        for row, at in [((), 0), ((0,), 1), ((2, 1, 3), 3), ((1, 0, 1, 7), 2), ((0, 1, 2, 3, 4), 4), ((4, 4), 0), ((0, 1, 2, 3, 3), 4)]:
            self.assertEqual(("InvalidOrder", at), raised(in_row, WORLD, row), row)
        self.assertEqual(("InvalidSize", "deeds"), raised(in_row, OFTEN, None))

    def test_safe_just_if_no_row_along_meets_a_harm(self):
        counts = {}
        for chance, world in worlds(71, 60, 3):
            many = len(world.plan.deeds)
            bad = {row: bool(come(in_row(world, row))) for row in itertools.permutations(range(many))}
            for later in orders_of(many):
                told = chance.choice([later, cover_pairs(later), [list(pair) for pair in later], [*later, *later]])
                safe = not any(bad[row] for row in rows_along(many, later))
                self.assertIs(safe, safe_order(world, told))
                counts[safe] = counts.get(safe, 0) + 1
        self.assertGreater(min(counts.values()), 100)

    def test_along_an_order(self):
        counts = {}
        for chance, world in worlds(72, 60, 3):
            pairs = chance.choice(orders_of(len(world.plan.deeds)))
            harms, fewest, passes = searched(world, pairs)
            self.assertIs(passes, order_passes(world, pairs))
            counts["passes", passes] = counts.get(("passes", passes), 0) + 1
            self.assertEqual(not harms, safe_order(world, pairs))
            paper, story = order_paper(world, pairs), order_story(world, pairs)
            self.assertEqual((bool(harms), not harms), (paper is None, story is None))
            if paper is not None:
                self.assertTrue(order_paper_holds(world, pairs, paper))
                self.assertTrue(paper_by_hand(world, pairs, paper))
            else:
                self.assertEqual(fewest, len(story[0]))
                self.assertIn(story[1], harms)
                self.assertTrue(order_story_holds(world, pairs, story))
                self.assertTrue(story_by_hand(world, pairs, *story))
                # Another harm told, an event behind the harm, and one less.
                self.assertFalse(order_story_holds(world, pairs, (story[0], ("lost", "zz"))))
                self.assertFalse(order_story_holds(world, pairs, (story[0] + story[0][:1], story[1])))
                self.assertFalse(order_story_holds(world, pairs, (story[0][:-1], story[1])))
        self.assertGreater(min(counts.values()), 5)

    def test_all_deeds_can_be_done_while_nobody_comes_in(self):
        # Guests may stay out for ever: no drain bars an order for good, be it safe or not.
        world = World.read("part p\ndoor d out p open\nkind k\ngo d\nplan\ndrain p\noff p")
        for pairs in ((), ((0, 1),), ((1, 0),)):
            self.assertIs(True, order_passes(world, pairs))
            self.assertIs(False, safe_order(world, pairs))
        chance = random.Random(74)
        for _ in range(20):
            world = random_world(chance, rows=3, deeds=3)
            self.assertIs(True, order_passes(world, chance.choice(orders_of(len(world.plan.deeds)))))

    def test_a_drain_may_wait_for_ever_along_an_order(self):
        # Who is in never comes out: no standing behind a deed has him in the part that it asks to be empty.
        world = World.read("part p\ndoor d out p open\nkind k\ngo d\nplan\ndrain p\nshut d")
        paper = order_paper(world, ((0, 1),))
        stuck = [standing for standing in paper if (0, 1, 0, None) in standing[1] and not standing[2]]
        self.assertEqual([((0, 0, -1, None), (0, 1, 0, None))], [standing[1] for standing in stuck])
        self.assertEqual(["step"], [what[0] for what, _, _ in events(world, ((0, 1),), first(world)) if what[0] != "hand"])
        self.assertEqual([], list(events(world, ((0, 1),), stuck[0])))
        self.assertTrue(order_passes(world, ((0, 1),)))


class Papers(unittest.TestCase):
    def test_spoilt_papers(self):
        counts = {}
        for chance, world in worlds(75, 60, 3):
            pairs = chance.choice(orders_of(len(world.plan.deeds)))
            paper = order_paper(world, pairs)
            if paper is None or len(paper) > 60:
                continue
            self.assertFalse(order_paper_holds(world, pairs, list(paper)))
            self.assertFalse(order_paper_holds(world, pairs, paper + paper[-1:]))
            self.assertFalse(order_paper_holds(world, pairs, tuple(one for one in paper if one != first(world))))
            self.assertTrue(order_paper_holds(world, pairs, paper[::-1]))
            for at in range(len(paper)):
                left = paper[:at] + paper[at + 1:]
                holds = paper_by_hand(world, pairs, left)
                self.assertIs(holds, order_paper_holds(world, pairs, left))
                counts[holds] = counts.get(holds, 0) + 1
        self.assertGreater(min(counts.values()), 20)

    def test_standings_that_no_row_begins_with(self):
        world = World.read("part p\ndoor d out p open\nkind k\ngo d\nplan\nshut d\non p")
        paper = order_paper(world, ((0, 1),))
        row, places, _ = first(world)
        odd = (row, places, (1,))
        self.assertFalse(order_paper_holds(world, ((0, 1),), (*paper, odd)))
        behind = [told[1] for told in events(world, ((0, 1),), odd)]
        more = dict.fromkeys([odd, *behind])
        left = list(more)
        for one in left:
            for _, standing, _ in events(world, ((0, 1),), one):
                if standing not in more:
                    more[standing] = None
                    left.append(standing)
        self.assertTrue(order_paper_holds(world, ((0, 1),), tuple(dict.fromkeys([*paper, *more]))))

    def test_any_value_as_a_paper(self):
        paper = order_paper(WORLD, P)
        for value in [*VALUES, *bent(paper[:2])]:
            self.assertIs(False, order_paper_holds(WORLD, P, value), value)
        for at in range(len(paper)):
            for one in bent(paper[at]):
                value = paper[:at] + (one,) + paper[at + 1:]
                if order_paper_holds(WORLD, P, value):
                    # Another standing may stand there, but in its form to the last.
                    self.assertTrue(paper_by_hand(WORLD, P, value))
                    self.assertEqual((tuple, [int] * len(one[2])), (type(one[2]), [type(part) for part in one[2]]))
                    self.assertEqual([bool, bool], [type(part) for part in one[0][0]])
        row, places, done = paper[-1]
        for wrong in [(0, 0), (1, 0), (4,), (True,), [0], (0, 1, 2, 3, 4)]:
            self.assertIs(False, order_paper_holds(WORLD, P, (*paper, (row, places, wrong))), wrong)

    def test_spoilt_stories(self):
        chance = random.Random(76)
        story = order_story(WORLD, ())
        for value in [*VALUES, *bent(story), story[0], (story[0], list(story[1])), ((), None)]:
            self.assertIs(False, order_story_holds(WORLD, (), value), value)
        self.assertIs(False, order_story_holds(WORLD, ((2, 3),), story))
        self.assertIs(True, order_story_holds(WORLD, ((3, 2),), story))
        longer = ((("hand", 0), ("hand", 1), ("hand", 3)), ("inside", "hall"))
        self.assertIs(False, order_story_holds(WORLD, (), longer))
        y, a = (0, 0, -1, None), (0, 1, 0, None)
        held = ((("step", y, False), ("hand", 1), ("hand", 0), ("hand", 3)), ("inside", "hall"))
        self.assertIs(True, order_story_holds(WORLD, ((1, 0),), held))
        self.assertIs(False, order_story_holds(WORLD, ((0, 1),), held))
        self.assertIs(False, order_story_holds(WORLD, (), (held[0], ("dark", "hall"))))
        self.assertIs(False, order_story_holds(WORLD, (), ((("step", y, False), ("hand", 2), ("hand", 3)), held[1])))
        self.assertIs(False, order_story_holds(WORLD, (), ((("step", a, False), ("hand", 3)), held[1])))
        for _, world in worlds(77, 40, 3):
            pairs = chance.choice(orders_of(len(world.plan.deeds)))
            story = order_story(world, pairs)
            for _ in range(10 if story else 0):
                value = mutated(chance, story)
                holds = isinstance(value, tuple) and len(value) == 2 and isinstance(value[0], tuple) and story_by_hand(
                    world, pairs, *value)
                self.assertIs(holds, order_story_holds(world, pairs, value), value)


class Sets(unittest.TestCase):
    def test_as_trials_of_all_orders(self):
        counts = {}
        for chance, world in worlds(78, 40, 3):
            many = len(world.plan.deeds)
            self.check_sets(chance, world, many)
            safe = [later for later in orders_of(many) if safe_order(world, later)]
            word = "none" if not safe else "all" if () in safe else "some"
            counts[word] = counts.get(word, 0) + 1
            self.assertEqual(word == "none", least_orders(world) == ())
            self.assertEqual(word == "all", least_orders(world) == ((),))
        self.assertGreater(min(counts.values()), 3)
        self.assertEqual(3, len(counts))

    def check_sets(self, chance, world, many):
        whole = orders_of(many)
        safe = {later: safe_order(world, later) for later in whole}
        least = [one for one in whole if safe[one] and not any(safe[two] and set(two) < set(one) for two in whole)]
        self.assertEqual(tuple(sorted(cover_pairs(one) for one in least)), least_orders(world))
        later = chance.choice(whole)
        covers = cover_pairs(later)
        due = [pair for pair in covers
               if not safe[later] or not safe_order(world, tuple(one for one in later if one != pair))]
        self.assertEqual(tuple(due), needful_pairs(world, later))
        cannot = []
        for size in range(len(later) + 1):
            for lot in itertools.combinations(later, size):
                if not any(set(less) <= set(lot) for less in cannot):
                    if not safe_order(world, [pair for pair in later if pair not in lot]):
                        cannot.append(lot)
        self.assertEqual(tuple(sorted(cannot)), must_keep(world, later))
        cuts = [cut for size in range(max(1, many)) for cut in itertools.combinations(range(1, many), size)]
        good = [cut for cut in cuts if safe_order(world, order_of_cut(many, cut))]
        self.assertEqual(tuple(sorted(cut for cut in good if not any(set(two) < set(cut) for two in good))),
                         least_cuts(world))

    def test_four_deeds(self):
        for chance, world in worlds(79, 3, 4):
            world = world.with_plan([*world.plan.deeds, *[("on", "p")] * 4][:4])
            self.check_sets(chance, world, 4)

    def test_a_pair_for_which_another_may_stand(self):
        self.assertEqual(((2, 3),), needful_pairs(WORLD, P))
        self.assertFalse(safe_order(WORLD, ((2, 3),)))
        self.assertTrue(safe_order(WORLD, ((0, 2), (2, 3))))
        self.assertTrue(safe_order(WORLD, ((1, 2), (2, 3))))
        # Not safe: all covers are needful, and nothing may be left out.
        self.assertEqual(((0, 1), (1, 2)), needful_pairs(WORLD, ((1, 2), (0, 1), (0, 2))))
        self.assertEqual(((),), must_keep(WORLD, ((1, 2), (0, 1))))

    def test_least_orders_go_by_their_covers(self):
        # By all pairs that follow the other one would be first: (1, 0) follows from (1, 3), (3, 0).
        world = World.read("part p\npart q\ndoor d out p shut\ndoor e out q open\nkind a\ngo d\ngo d\ngo e\nkind b\nshut d\nshut d\n"
                           "plan\noff q\nshut e\nopen d\ndrain q")
        self.assertEqual((((1, 2),), ((1, 3), (3, 0))), least_orders(world))

    def test_two_pairs_and_two_cuts(self):
        # Shut e ahead of open d, and shut g ahead of open f: else somebody comes into p or q, dark or not.
        world = World.read("part a\npart p\npart b\npart q\ndoor d out a shut\ndoor e a p open\ndoor f out b shut\ndoor g b q open\n"
                           "kind k\ngo d\ngo e\nkind m\ngo f\ngo g\nplan\nshut e\nshut g\nopen d\nopen f\noff p\noff q")
        pairs = ((0, 2), (1, 3))
        self.assertTrue(safe_order(world, pairs))
        self.assertEqual(pairs, needful_pairs(world, pairs))
        self.assertEqual(((1, 3), (2,)), least_cuts(world))

    def test_without_deeds(self):
        world = WORLD.with_plan([])
        self.assertEqual((((),), ((),), (), ()), (least_orders(world), least_cuts(world), must_keep(world, ()),
                                                   needful_pairs(world, ())))
        self.assertTrue(order_passes(world, ()))
        alone = WORLD.with_plan([("off", "hall")])
        self.assertEqual(((), ((),), ()), (least_orders(alone), must_keep(alone, ()), least_cuts(alone)))

    def test_six_deeds(self):
        plan = [("shut", "d"), ("drain", "hall"), ("off", "hall"), ("on", "hall"), ("open", "d"), ("open", "d")]
        world = WORLD.with_plan(plan)
        self.assertEqual(((1, 2, 3, 4),), least_cuts(world))
        pairs = [(at, at + 1) for at in range(5)]
        self.assertTrue(safe_order(world, pairs))
        self.assertEqual(((0, 1), (1, 2), (2, 3), (3, 4)), needful_pairs(world, pairs))


class Errors(unittest.TestCase):
    CALLS = [safe_order, order_paper, order_story, order_passes, needful_pairs, must_keep,
             lambda world, pairs: order_paper_holds(world, pairs, None),
             lambda world, pairs: order_story_holds(world, pairs, None)]

    def test_pairs(self):
        for call in self.CALLS:
            for value in VALUES:
                if not isinstance(value, (list, tuple)):
                    self.assertEqual(("InvalidOrder", 0), raised(call, WORLD, value), value)
                self.assertEqual(("InvalidOrder", 1), raised(call, WORLD, [(0, 1), value]), value)
            for pairs, at in [([(0, 1), (1, 1)], 1), ([(0, 4)], 0), ([(0, 1), [1, 0]], 2), ([(0, 1), (1, 2), (2, 0), (0, 2)], 4),
                              ([(True, 2)], 0), ([(0, 1, 2)], 0), ([(0, -1)], 0), ([NESTED], 0)]:
                self.assertEqual(("InvalidOrder", at), raised(call, WORLD, pairs), pairs)

    def test_many_deeds(self):
        for call in self.CALLS:
            self.assertEqual(("InvalidSize", "deeds"), raised(call, OFTEN, None))
        five = WORLD.with_plan([("shut", "d")] * 5)
        for call in (least_orders, lambda world: must_keep(world, None)):
            self.assertEqual(("InvalidSize", "deeds"), raised(call, five))
        self.assertEqual(((),), least_cuts(WORLD.with_plan([("shut", "d")] * 6)))
        self.assertEqual(("InvalidSize", "deeds"), raised(least_cuts, OFTEN))

    def test_too_many_standings(self):
        for call in [safe_order, order_paper, order_story, order_passes, needful_pairs, must_keep]:
            self.assertEqual(("InvalidSize", "standings"), raised(call, BIG, ()))
            self.assertEqual(("InvalidOrder", 0), raised(call, BIG, [(0, 0)]))
        for call in [least_orders, least_cuts]:
            self.assertEqual(("InvalidSize", "standings"), raised(call, BIG))
        # Also where a harm is met early.
        harmed = BIG.with_plan([("off", "p"), ("on", "p")])
        for call in [safe_order, order_paper, order_story, order_passes, needful_pairs, must_keep]:
            self.assertEqual(("InvalidSize", "standings"), raised(call, harmed, ()))
        for call in [least_orders, least_cuts]:
            self.assertEqual(("InvalidSize", "standings"), raised(call, harmed))
        # What is handed in is only looked at.
        self.assertFalse(order_paper_holds(BIG, (), ()))
        self.assertFalse(order_story_holds(BIG, (), ((), ())))

    def test_just_as_many_standings_as_are_let(self):
        chain = [(0, 1), (1, 2), (2, 3)]
        self.assertTrue(safe_order(large_world(4), chain))
        self.assertEqual(5000, len(order_paper(large_world(4), chain)))
        self.assertEqual(("InvalidSize", "standings"), raised(safe_order, large_world(5), [*chain, (3, 4)]))
        self.assertEqual(("InvalidSize", "standings"), raised(safe_order, large_world(4), chain[:2]))
        self.assertEqual((), must_keep(large_world(4), chain))
        # Along one row of four deeds there are a few more.
        more = World.read("part p\ndoor d out p open\ncell c p\ncell e p\nkind a\ngo d\nsee c\ntell c\nset c 2\nsee e\ntell c\n"
                          "kind b\ngo d\nplan" + "\non p" * 4)
        for call in [least_orders, lambda world: must_keep(world, chain)]:
            self.assertEqual(("InvalidSize", "standings"), raised(call, more))
        self.assertEqual(((),), least_orders(more.with_plan(more.plan.deeds[:3])))

    def test_by_names_and_again(self):
        self.assertEqual(safe_order(WORLD, P), safe_order(world=WORLD, pairs=list(P)))
        self.assertEqual(order_paper(WORLD, P), order_paper(world=WORLD, pairs=[list(pair) for pair in P]))
        self.assertEqual(order_story(WORLD, ()), order_story(world=WORLD, pairs=[]))
        self.assertIs(True, order_paper_holds(world=WORLD, pairs=P, value=order_paper(WORLD, P)))
        self.assertIs(True, order_story_holds(world=WORLD, pairs=(), value=order_story(WORLD, ())))
        self.assertEqual(must_keep(WORLD, P), must_keep(world=WORLD, pairs=P))
        self.assertEqual(needful_pairs(WORLD, P), needful_pairs(world=WORLD, pairs=P))
        self.assertEqual(least_cuts(WORLD), least_cuts(world=WORLD))
        self.assertEqual(least_orders(WORLD), least_orders(world=WORLD))
        self.assertIs(True, order_passes(world=WORLD, pairs=P))
        self.assertIsInstance(WORLD.kinds[0], Kind)


if __name__ == "__main__":
    unittest.main()
