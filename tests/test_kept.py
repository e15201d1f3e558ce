"""[1] to [3], [59] to [64]: kept cells."""

import itertools
import random
import unittest

from helpers import VALUES, bent, raised, random_world
from lightsout.errors import InvalidSize, InvalidStory, Refused
from lightsout.guests import Kind
from lightsout.house import House
from lightsout.kept import (calm_holds, calm_paper, gap, good_keepings, is_good, keepings, kept_world, least_good, never_off, telling,
                            telling_holds, telling_paper)
from lightsout.lots import Lots
from lightsout.plans import World
from lightsout.sights import is_sight
from lightsout.tellers import Crowd, Teller
from lightsout.traces import is_seen, trace, words_of
from slow import TooMuch, after, due, first_sight, is_behind, is_behind_one, mutated, none_of, seen, teller, unseen, words_from

ROWS = ["part p", "door d out p open", "cell c p", "cell e p", "kind w", "go d", "set c 1", "set e 1", "go d"]
WORLD = World.read("\n".join([*ROWS, "kind r", "go d", "see e", "see c", "plan", "drain p", "off p", "on p"]))
BACK = World.read("part p\ndoor d out p open\ncell c p\nkind w\ngo d\nset c 1\ngo d\nkind r\ngo d\nsee c\ngo d\ngo d\nsee c\nplan\n"
                  "drain p\noff p\non p")


def number_of(world, name):
    return [kind.name for kind in world.kinds].index(name)


def least_telling(world, kinds, keeping, most):
    """What [60] tells, by plain searches; "?" if there is none of at most so many steps."""
    kept, dark = kept_world(world, keeping), never_off(world)
    layers = {}
    for number, kind in enumerate(world.kinds):
        if kind.name in kinds:
            layers[number] = [("", due(kept, [first_sight(kept, number)], 1200), due(dark, [first_sight(dark, number)], 1200))]
    met = set()
    for _ in range(most):
        behind = {}
        for number, layer in layers.items():
            for text, can, may in layer:
                for word in words_from(kept, can):
                    longer = (text + " " + word).strip()
                    left = due(dark, after(dark, may, word), 1200)
                    if not left:
                        return world.kinds[number].name, longer
                    more = due(kept, after(kept, can, word), 1200)
                    key = (number, frozenset(more), frozenset(left))
                    if key not in met:
                        met.add(key)
                        behind.setdefault(number, []).append((longer, more, left))
        layers = behind
        if sum(len(layer) for layer in layers.values()) > 40:
            raise TooMuch
    return "?" if layers else None


def telling_by_hand(world, kinds, keeping, value):
    """Whether a tuple of the right form holds, as [62] tells it."""
    kept, dark = kept_world(world, keeping), never_off(world)
    name, text, story, rows = value
    if name not in kinds:
        return False
    try:
        if trace(kept, story, 0) != text:
            return False
    except (InvalidStory, Refused, InvalidSize):
        return False
    words = text.split(" ") if text else []
    if [event for event in story if event[:4] == "come"][0] != "come " + name or len(rows) != len(words) + 1 or rows[-1]:
        return False
    if not is_behind_one(dark, first_sight(dark, number_of(world, name)), rows[0]):
        return False
    for at, row in enumerate(rows):
        for sight in row:
            if not all(is_behind_one(dark, other, row) for other in unseen(dark, sight)):
                return False
            told = seen(dark, sight)
            if told is not None and told[0] == words[at] and not is_behind_one(dark, told[1], rows[at + 1]):
                return False
    return True


def calm_by_hand(world, kinds, keeping, value):
    """Whether a tuple of the right form holds, as [63] tells it."""
    kept, dark = kept_world(world, keeping), never_off(world)
    if [part[0] for part in value] != [kind.name for kind in world.kinds if kind.name in kinds]:
        return False
    for name, rows in value:
        def serves(sight, around):
            return any(is_behind(kept, sight, one) and all(is_behind_one(dark, more, around) for more in row) for one, row in rows)

        number = number_of(world, name)
        if not all(row for _, row in rows) or not serves(first_sight(kept, number), due(dark, [first_sight(dark, number)])):
            return False
        for sight, row in rows:
            around = due(dark, row)
            if not all(serves(other, around) for other in unseen(kept, sight)):
                return False
            told = seen(kept, sight)
            if told is not None and not serves(told[1], due(dark, after(dark, around, told[0]))):
                return False
    return True


def has_form(world, keeping, value, is_calm):
    kept, dark = kept_world(world, keeping), never_off(world)
    try:
        if is_calm:
            return all(isinstance(part, tuple) and len(part) == 2 and isinstance(part[0], str) and isinstance(part[1], tuple) and all(
                isinstance(row, tuple) and len(row) == 2 and is_sight(kept, row[0]) and isinstance(row[1], tuple) and all(
                    is_sight(dark, sight) for sight in row[1]) for row in part[1]) for part in value)
        name, text, story, rows = value
        return isinstance(name, str) and isinstance(text, str) and isinstance(story, tuple) and isinstance(rows, tuple) and all(
            isinstance(row, tuple) and all(is_sight(dark, sight) for sight in row) for row in rows)
    except (TypeError, ValueError):
        return False


class Keepings(unittest.TestCase):
    def test_order(self):
        self.assertEqual(((), ("c",), ("e",), ("c", "e")), keepings(WORLD.house))
        house = House(["p"], [], [("z", "p", True), ("b", "p", False), ("a", "p", False)])
        self.assertEqual(((), ("z",), ("b",), ("a",), ("z", "b"), ("z", "a"), ("b", "a"), ("z", "b", "a")), keepings(house=house))
        self.assertEqual(((),), keepings(House(["p"], [], [])))
        many = House(["p"], [], [(name, "p", False) for name in "stuvwxyz"])
        self.assertEqual(256, len(keepings(many)))
        self.assertEqual(list(keepings(many)), sorted(keepings(many), key=lambda one: (len(one), one)))

    def test_kept_world(self):
        for keeping in keepings(WORLD.house):
            world = kept_world(WORLD, keeping)
            self.assertEqual(tuple(cell in keeping for cell in "ce"), world.house.kept)
            self.assertEqual((WORLD.kinds, WORLD.plan), (world.kinds, world.plan))
            self.assertEqual(world, kept_world(world=kept_world(WORLD, ("c", "e")), keeping=list(keeping)))

    def test_never_off(self):
        world = WORLD.with_plan([("off", "p"), ("save", "c"), ("on", "p"), ("drain", "p"), ("shut", "d"), ("off", "p")])
        self.assertEqual((("save", "c"), ("drain", "p"), ("shut", "d")), never_off(world=world).plan.deeds)
        self.assertEqual((world.house, world.kinds), (never_off(world).house, never_off(world).kinds))
        chance = random.Random(59)
        for _ in range(20):
            world = never_off(random_world(chance, rows=3, deeds=3))
            self.assertTrue(Lots(world, none_of(world), 20000).calm)

    def test_errors(self):
        calls = [kept_world, lambda world, keeping: telling(world, ["r"], keeping), lambda world, keeping: is_good(world, ["r"], keeping),
                 lambda world, keeping: telling_paper(world, ["r"], keeping), lambda world, keeping: calm_paper(world, ["r"], keeping),
                 lambda world, keeping: telling_holds(world, ["r"], keeping, None),
                 lambda world, keeping: calm_holds(world, ["r"], keeping, None)]
        for call in calls:
            for value in VALUES:
                if not isinstance(value, (list, tuple)):
                    self.assertEqual(("InvalidLot", -1), raised(call, WORLD, value), value)
                error = ("NoName", value) if isinstance(value, str) else ("InvalidLot", 1)
                self.assertEqual(error, raised(call, WORLD, ["c", value]), value)
            for keeping, error in [(["e", "c"], ("InvalidLot", 1)), (["c", "c"], ("InvalidLot", 1)), (["z", 0], ("NoName", "z")),
                                   ([0, "z"], ("InvalidLot", 0)), (["e", "c", "z"], ("InvalidLot", 1)), (["p"], ("NoName", "p")),
                                   (("c", "e", "e"), ("InvalidLot", 2))]:
                self.assertEqual(error, raised(call, WORLD, keeping), keeping)

    def test_kinds_ahead_of_keepings(self):
        calls = [lambda kinds: telling(WORLD, kinds, 0), lambda kinds: is_good(WORLD, kinds, 0), lambda kinds: good_keepings(WORLD, kinds),
                 lambda kinds: least_good(WORLD, kinds), lambda kinds: gap(WORLD, kinds), lambda kinds: telling_paper(WORLD, kinds, 0),
                 lambda kinds: calm_paper(WORLD, kinds, 0), lambda kinds: telling_holds(WORLD, kinds, 0, None),
                 lambda kinds: calm_holds(WORLD, kinds, 0, None)]
        for call in calls:
            for value in VALUES:
                self.assertEqual(("NoName", value), raised(call, ["r", value, 5]), value)
            self.assertEqual(("NoName", "c"), raised(call, ("c",)))


class Telling(unittest.TestCase):
    def test_example(self):
        self.assertEqual((((), ("c",), ("c", "e")), ((),), ((), ("e",))),
                         (good_keepings(WORLD, ["r"]), least_good(WORLD, ["r"]), gap(WORLD, ["r"])))
        self.assertEqual(("r", "0 1:1 2:0"), telling(WORLD, ["r"], ["e"]))
        self.assertTrue(is_seen(kept_world(WORLD, ["e"]), "r", "0 1:1 2:0"))
        self.assertFalse(is_seen(never_off(WORLD), "r", "0 1:1 2:0"))

    def test_all_cells_and_none(self):
        self.assertEqual(((("c",),), (("c",),), None), (good_keepings(BACK, ["r"]), least_good(BACK, ["r"]), gap(BACK, ["r"])))
        self.assertEqual(("r", "0 1:1 2 3 4:0"), telling(world=BACK, kinds=["r"], keeping=()))
        self.assertIs(True, is_good(world=BACK, kinds=["r"], keeping=["c"]))
        self.assertIs(False, is_good(BACK, ["r"], ()))
        # Who only writes never can tell; for several kinds good is what is good for each.
        self.assertIsNone(telling(BACK, ["w"], ()))
        self.assertEqual(("r", "0 1:1 2 3 4:0"), telling(BACK, ("r", "w", "r"), []))
        self.assertIsNone(telling(BACK, (), ()))

    def test_saved_and_loaded(self):
        saved = BACK.with_plan([("drain", "p"), ("save", "c"), ("off", "p"), ("on", "p"), ("load", "c")])
        # What is loaded may be old also where no light goes off.
        self.assertIsNone(telling(saved, ["r"], ()))
        shut = saved.with_plan([("shut", "d"), ("drain", "p"), ("save", "c"), ("off", "p"), ("on", "p"), ("load", "c"), ("open", "d")])
        self.assertIsNone(telling(shut, ["r"], ()))
        # A save while it is dark saves nothing, and the load brings an old value: then keeping all is not good either.
        dark = BACK.with_plan([("shut", "d"), ("drain", "p"), ("off", "p"), ("save", "c"), ("on", "p"), ("load", "c"), ("open", "d")])
        self.assertEqual(("r", "0 1:1 2 3 4:0"), telling(dark, ["r"], ["c"]))
        self.assertEqual(((), (), None), (good_keepings(dark, ["r"]), least_good(dark, ["r"]), gap(dark, ["r"])))

    def test_the_kind_told_first_and_the_least_text(self):
        two = World.read("\n".join([*ROWS, "kind r", "go d", "see e", "see c", "kind s", "go d", "see e", "see c", "plan", "drain p", "off p",
                                    "on p"]))
        self.assertEqual(("r", "0 1:1 2:0"), telling(two, ["s", "r"], ["e"]))
        self.assertEqual(("s", "0 1:1 2:0"), telling(two, ["s", "s"], ["e"]))
        three = World.read("\n".join([*ROWS[:4], "kind w", "go d", "set c 1", "set e 1", "go d", "kind r", "go d", "see e", "see e", "see c",
                                      "kind s", "go d", "see e", "see c", "plan", "drain p", "off p", "on p"]))
        self.assertEqual(("s", "0 1:1 2:0"), telling(three, ["r", "s"], ["e"]))
        self.assertEqual(("r", "0 1:1 2:1 3:0"), telling(three, ["r"], ["e"]))

    def test_as_plain_searches(self):
        chance = random.Random(60)
        counts = {}
        for number in range(90):
            world = teller(chance, 2, 7) if number % 3 else random_world(chance, rows=3, deeds=4)
            names = [kind.name for kind in world.kinds]
            kinds = chance.choice([names, names[::-1], names[:1], names[-1:], names * 2])
            keeping = chance.choice(keepings(world.house))
            try:
                found = least_telling(world, kinds, keeping, 6)
            except TooMuch:
                counts["big"] = counts.get("big", 0) + 1
                continue
            told = telling(world, kinds, keeping)
            if found == "?":
                self.assertTrue(told is None or len(told[1].split(" ")) > 6)
            else:
                self.assertEqual(found, told, world.text())
            self.assertEqual(told is None, is_good(world, kinds, keeping))
            counts[told is None] = counts.get(told is None, 0) + 1
        self.assertGreater(counts[True], 20)
        self.assertGreater(counts[False], 5)

    def test_good_ones(self):
        chance = random.Random(61)
        gaps = 0
        for _ in range(25):
            world = teller(chance, 3, 8)
            names = [kind.name for kind in world.kinds]
            whole = keepings(world.house)
            good = tuple(keeping for keeping in whole if is_good(world, names, keeping))
            self.assertEqual(good, good_keepings(world, names))
            self.assertEqual(tuple(one for one in good if not any(set(two) < set(one) for two in good)), least_good(world, names))
            pairs = [(one, other) for one in good for other in whole if other not in good and set(one) <= set(other)]
            self.assertEqual(pairs[0] if pairs else None, gap(world, names))
            gaps += bool(pairs)
            # What is good for several kinds is what is good for each.
            each = [set(good_keepings(world, [name])) for name in names]
            self.assertEqual(set(good), set.intersection(*each))
            # No save or load stands in the dark: keeping all is good.
            if not any(word in ("save", "load") for word, _ in world.plan.deeds):
                self.assertIn(whole[-1], good)
        self.assertGreater(gaps, 0)

    def test_cells_that_nobody_sets_or_uses(self):
        world = World.read(BACK.text().replace("cell c p", "cell c p\ncell z p"))
        self.assertEqual((("c",), ("c", "z")), good_keepings(world, ["r"]))


class Papers(unittest.TestCase):
    def test_one_of_both_is_there(self):
        chance = random.Random(62)
        for _ in range(20):
            world = teller(chance, 2, 8)
            names = [kind.name for kind in world.kinds]
            for keeping in keepings(world.house):
                told, calm = telling_paper(world, names, keeping), calm_paper(world, names, keeping)
                self.assertNotEqual(told is None, calm is None)
                if told is not None:
                    self.assertEqual(telling(world, names, keeping), told[:2])
                    self.assertEqual(told[1], trace(kept_world(world, keeping), told[2], 0))
                    self.assertIs(True, telling_holds(world=world, kinds=names, keeping=list(keeping), value=told))
                    self.assertIs(False, calm_holds(world, names, keeping, told))
                else:
                    self.assertEqual([kind.name for kind in world.kinds], [part[0] for part in calm])
                    self.assertIs(True, calm_holds(world=world, kinds=names[::-1], keeping=keeping, value=calm))
                    self.assertIs(False, telling_holds(world, names, keeping, calm))

    def test_bent_as_by_hand(self):
        chance = random.Random(63)
        counts = {}
        while min([counts.get(key, 0) for key in itertools.product("tc", (True, False))]) < 12:
            world = teller(chance, 2, 6)
            names = [kind.name for kind in world.kinds]
            keeping = chance.choice(keepings(world.house))
            try:
                due(kept_world(world, keeping), [first_sight(world, 0)], 300)
                due(kept_world(world, keeping), [first_sight(world, len(names) - 1)], 300)
            except TooMuch:
                continue
            told = telling_paper(world, names, keeping)
            for _ in range(8 if told else 0):
                value = mutated(chance, told)
                holds = has_form(world, keeping, value, False) and telling_by_hand(world, names, keeping, value)
                self.assertIs(holds, telling_holds(world, names, keeping, value), value)
                counts["t", holds] = counts.get(("t", holds), 0) + 1
            calm = calm_paper(world, names, keeping)
            if calm is None or sum(len(part[1]) for part in calm) > 40:
                continue
            for _ in range(4):
                value = mutated(chance, calm)
                holds = has_form(world, keeping, value, True) and calm_by_hand(world, names, keeping, value)
                self.assertIs(holds, calm_holds(world, names, keeping, value), value)
                counts["c", holds] = counts.get(("c", holds), 0) + 1

    def test_each_way_to_bend_a_telling_paper(self):
        paper = telling_paper(BACK, ["r"], ())
        name, text, story, rows = paper
        self.assertTrue(telling_holds(BACK, ["w", "r"], (), paper))
        self.assertFalse(telling_holds(BACK, ["w"], (), paper))
        self.assertFalse(telling_holds(BACK, ["r"], ["c"], paper))
        for value in [*VALUES, list(paper), paper[:3], (*paper, 0), ("w", *paper[1:]), (name, "0 1:1 2 3 4:1", story, rows), (name, "", story, rows),
                      (name, "", ("come r",), ((),)), (name, text, list(story), rows), (name, text, story[:-1], rows),
                      (name, text, (*story, "hand"), rows), (name, text, (*story, "step 9"), rows), (name, text, story, list(rows)),
                      (name, text, story, rows[:-1]), (name, text, story, (*rows, ())), (name, text, story, (*rows[:-1], rows[0][:1])),
                      (name, text, story, ((), *rows[1:])), (name, text, story, (list(rows[0]), *rows[1:]))]:
            self.assertIs(False, telling_holds(BACK, ["r"], (), value), value)
        # With an event more that does not harm it holds, if it is not his own.
        self.assertTrue(telling_holds(BACK, ["r"], (), (name, text, (*story, "come w"), rows)))
        # First places may be missing.
        for sight in [sight for sight in bent(rows[0][0]) if sight[1] != ()]:
            self.assertIs(False, telling_holds(BACK, ["r"], (), (name, text, story, ((*rows[0], sight), *rows[1:]))), sight)
        row, places, hand, place = rows[0][0]
        for sight in [(row, places[::-1], hand, place), (row, places + places[-1:], hand, place), (row, places, 2, place), (row, places, -1, place)]:
            if sight != rows[0][0]:
                self.assertIs(False, telling_holds(BACK, ["r"], (), (name, text, story, ((*rows[0], sight), *rows[1:]))), sight)
        # A sight that is no more than others, and one told twice, do no harm.
        self.assertTrue(telling_holds(BACK, ["r"], (), (name, text, story, (rows[0] + rows[0][:1], *rows[1:]))))

    def test_rows_must_be_closed(self):
        name, text, story, rows = telling_paper(BACK, ["r"], ())
        dark = never_off(BACK)
        # Without what others do he never sees 1: but others do.
        alone = [(first_sight(dark, 1),), tuple(after(dark, [first_sight(dark, 1)], "0")), (), (), (), ()]
        self.assertEqual(len(rows), len(alone))
        value = (name, text, story, tuple(alone))
        self.assertTrue(has_form(BACK, (), value, False))
        self.assertFalse(telling_by_hand(BACK, ["r"], (), value))
        self.assertIs(False, telling_holds(BACK, ["r"], (), value))
        # Nobody serves what he shows: rows of the unseen steps alone are no paper that he can not tell.
        kept = kept_world(BACK, ())
        sights = tuple((sight, (first_sight(dark, 1),)) for sight in due(kept, [first_sight(kept, 1)]))
        self.assertFalse(calm_by_hand(BACK, ["r"], (), (("r", sights),)))
        self.assertIs(False, calm_holds(BACK, ["r"], (), (("r", sights),)))

    def test_idle_places_may_be_missing(self):
        # Behind a rest nothing comes, and a jump passes over rows: who is idle need not be told.
        for rows, is_idle in [("go d\nrest\nset c 1", True), ("go d\nset c 1", False), ("again 2\nset c 1\nsee c", True),
                              ("when 0 2\nset c 1\nsee c", False), ("go d\nagain 1\nset c 1", True), ("go d\nuse c\nwait c 2", True),
                              ("go d\nshut d", False), ("tell c", False), ("rest\nopen d", True)]:
            world = World.read("part p\ndoor d out p open\ncell c p\nkind w\n" + rows + "\nkind r\nrest\nplan")
            row, _, hand, place = first_sight(world, 1)
            bare = (row, (), hand, place)
            paper = (("r", ((bare, (bare,)),)),)
            self.assertIs(is_idle, calm_by_hand(world, ["r"], (), paper))
            self.assertIs(is_idle, calm_holds(world, ["r"], (), paper), rows)

    def test_stories_and_names_of_papers(self):
        two = World.read(BACK.text().replace("plan\n", "kind s\ngo d\nsee c\ngo d\ngo d\nsee c\nplan\n"))
        name, text, story, rows = telling_paper(two, ["r", "s"], ())
        other = tuple(event.replace("come r", "come s") for event in story)
        self.assertEqual(("r", text), (name, trace(kept_world(two, ()), other, 0)))
        self.assertTrue(telling_holds(two, ["r", "s"], (), (name, text, story, rows)))
        self.assertFalse(telling_holds(two, ["r", "s"], (), (name, text, other, rows)))
        self.assertFalse(telling_holds(two, ["r", "s"], (), ("s", text, story, rows)))
        for value in [(name, text, (*story, "away"), rows), (name, text, ("away", *story), rows), (name, None, story, rows),
                      (name, text + " ", story, rows), (name, "x", story, rows), (name, "", (), ((),)), (name, "", (), ()),
                      (name, [text], story, rows), ([name], text, story, rows)]:
            self.assertIs(False, telling_holds(two, ["r", "s"], (), value), value)

    def test_papers_ask_for_more_than_searches(self):
        # Who never comes out of p bars the drain, whoever else is in: but papers tell both.
        counts = {}
        chance = random.Random(64)
        while min([counts.get(key, 0) for key in itertools.product("tc", (True, False))]) < 3:
            world = teller(chance, 2, 6)
            if chance.random() < 0.7:
                kinds = [Kind(kind.name, kind.rows[:-1] if len(kind.rows) > 3 else kind.rows) for kind in world.kinds]
                world = World(world.house, kinds, world.plan)
            keeping = chance.choice(keepings(world.house))
            kept, dark = kept_world(world, keeping), never_off(world)
            try:
                for number in range(len(world.kinds)):
                    due(kept, [first_sight(kept, number)], 300)
            except TooMuch:
                continue
            name = chance.choice([kind.name for kind in world.kinds])
            crowd = Crowd(dark)
            told = telling_paper(world, [name], keeping)
            if told is not None:
                rows = [crowd.opening(number_of(world, name))]
                for word in words_of(told[1]):
                    rows.append(crowd.behind(rows[-1], word))
                loose = tuple(tuple(crowd.sights.sight_of(sight) for sight in crowd.row_at(row)) for row in rows)
                value = (*told[:3], loose)
                holds = telling_by_hand(world, [name], keeping, value)
                self.assertIs(holds, telling_holds(world, [name], keeping, value))
                counts["t", holds] = counts.get(("t", holds), 0) + 1
                continue
            seeker = Teller(kept, crowd)
            seeker.search(number_of(world, name))
            value = ((name, seeker.pairs()),)
            if len(value[0][1]) < 30:
                holds = calm_by_hand(world, [name], keeping, value)
                self.assertIs(holds, calm_holds(world, [name], keeping, value))
                counts["c", holds] = counts.get(("c", holds), 0) + 1

    def test_the_least_text_of_two(self):
        house = "part p\ndoor d out p open\ncell c p\n"
        read = "kind r\ngo d\nsee c\ngo d\ngo d\nsee c\n"
        plan = "plan\ndrain p\noff p\non p"
        for rows in ("set c 1\nset c 2", "set c 2\nset c 1"):
            for kinds in (read + "kind w\ngo d\n" + rows + "\ngo d\n", "kind w\ngo d\n" + rows + "\ngo d\n" + read):
                world = World.read(house + kinds + plan)
                self.assertTrue(is_seen(kept_world(world, ()), "r", "0 1:2 2 3 4:0"))
                self.assertFalse(is_seen(never_off(world), "r", "0 1:2 2 3 4:0"))
                self.assertEqual(("r", "0 1:1 2 3 4:0"), telling(world, ["r", "w"], ()))
                paper = telling_paper(world, ["r"], ())
                self.assertTrue(telling_holds(world, ["r"], (), paper))
        # A watched one who may have to wait.
        waits = World.read(house + "kind w\ngo d\nset c 1\ngo d\nkind r\ngo d\nwait c 1\ngo d\ngo d\nsee c\n" + plan)
        self.assertEqual(("r", "0 1 2 3 4:0"), telling(waits, ["r"], ()))
        self.assertTrue(telling_holds(waits, ["r"], (), telling_paper(waits, ["r"], ())))
        self.assertTrue(calm_holds(waits, ["r", "w"], ["c"], calm_paper(waits, ["r", "w"], ["c"])))

    def test_each_way_to_bend_a_calm_paper(self):
        paper = calm_paper(BACK, ["r", "w"], ["c"])
        (one, told), (other, rows) = paper
        self.assertEqual(("w", "r"), (one, other))
        self.assertTrue(calm_holds(BACK, ["w", "r", "w"], ["c"], paper))
        self.assertFalse(calm_holds(BACK, ["w"], ["c"], paper))
        self.assertTrue(calm_holds(BACK, ["w"], ["c"], paper[:1]))
        self.assertTrue(calm_holds(BACK, (), ["c"], ()))
        for value in [*VALUES, list(paper), paper[::-1], paper[:1], paper + paper[:1], ((one, list(told)), (other, rows)),
                      ((one, told), (other, ())), ((one, told), (other, rows[1:])), ((one, told), ("w", rows)),
                      ((one, told), (other, (*rows, (rows[0][0], ())))), ((one, told), (other, (*rows, rows[0][:1]))),
                      ((one, told), (other, (*rows, (rows[0][0], list(rows[0][1])))))]:
            if value != ():
                self.assertIs(False, calm_holds(BACK, ["w", "r"], ["c"], value), value)
        for sight in [sight for sight in bent(rows[0][0]) if sight[1] != ()]:
            self.assertIs(False, calm_holds(BACK, ["w", "r"], ["c"], ((one, told), (other, (*rows, (sight, rows[0][1]))))), sight)
        for sight in [sight for sight in bent(rows[0][1][0]) if sight[1] != ()]:
            self.assertIs(False, calm_holds(BACK, ["w", "r"], ["c"], ((one, told), (other, (*rows, (rows[0][0], (sight,)))))), sight)
        # Rows told twice, in another order, do no harm.
        self.assertTrue(calm_holds(BACK, ["w", "r"], ["c"], ((one, told[::-1] + told), (other, rows + rows[:1]))))
        # A kept world's sight may stand where all deeds are done; without off and on there are fewer.
        row, places, _, place = rows[0][0]
        done = (row, places, 2, place)
        self.assertIs(False, calm_holds(BACK, ["w", "r"], ["c"], ((one, told), (other, (*rows, (rows[0][0], (done,)))))))

    def test_larger_worlds(self):
        world = World.read("part p\ndoor d out p open\ncell c p\ncell m p\ncell s p\nkind a\ngo d\nset c 1\nsee m\nset m 2\ngo d\n"
                           "kind b\ngo d\nsee c\nsee m\ngo d\nplan\ndrain p\noff p\non p\ndrain p\noff p\non p")
        self.assertEqual(8, len(keepings(world.house)))
        for keeping in ((), ("c", "m", "s")):
            told = telling(world, ["a", "b"], keeping)
            self.assertEqual(told is None, calm_paper(world, ["a", "b"], keeping) is not None)


if __name__ == "__main__":
    unittest.main()
