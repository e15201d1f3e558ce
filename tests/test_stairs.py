"""[1] to [3], [45], [46], [48]: least numbers of guests, and corners."""

import itertools
import random
import unittest

from helpers import VALUES, bent, raised, random_world
from lightsout.closed import closed_holds, closed_paper
from lightsout.harms import Verdict
from lightsout.least import least_guests
from lightsout.lots import Lots
from lightsout.plans import World
from lightsout.stage import Stage
from lightsout.stairs import Stairs, check_stairs, is_above, is_below, least_numbers
from slow import all_harms, none_of

HOUSE = "part p\npart q\ndoor d out p open\ndoor e p q open\ncell c p\n"
WORLD = World.read(HOUSE + "kind a\ngo d\nsee c\nset c 1\nwhen 0 3\ngo e\nkind b\ngo d\nset c 1\nplan\noff q")
DARK = ("dark", "q")
# Two must open, one must have gone in.
THREE = World.read("part p\npart q\ndoor d out p shut\ndoor e p q shut\nkind a\nopen d\nrest\nkind b\ngo d\nopen e\ngo e\nplan\noff q")


def comes(world, harm, vector):
    return harm in Lots(world, vector, 20000).harms


def key(caps):
    return [(cap is None, cap or 0) for cap in caps]


class Orders(unittest.TestCase):
    def test_above(self):
        for one, other, is_so in [((), (), True), ((1,), (1,), True), ((2, 0), (1, 0), True), ((2, 0), (1, 1), False),
                                  ((0, 0), (0, 0), True), ((0, 5, 1), (0, 4, 2), False)]:
            self.assertIs(is_so, is_above(vector=one, other=other))

    def test_below(self):
        for one, caps, is_so in [((), (), True), ((1,), (1,), True), ((1,), (None,), True), ((2,), (1,), False), ((None,), (5,), False),
                                 ((None,), (None,), True), ((0, None), (0, None), True), ((3, 1), (None, 0), False)]:
            self.assertIs(is_so, is_below(vector=one, caps=caps))


class Least(unittest.TestCase):
    def test_example(self):
        stairs = least_numbers(WORLD, DARK)
        self.assertEqual((((1, 1), (2, 0)), ((0, None), (1, 0))), (stairs.vectors, stairs.corners))
        self.assertEqual(("come a", "come b"), stairs.tales[0][:2])
        self.assertIs(True, check_stairs(WORLD, DARK, stairs))

    def test_a_harm_that_never_comes(self):
        told = least_numbers(world=WORLD, harm=["stale", "c"])
        self.assertEqual(((), (), ((None, None),)), (told.vectors, told.tales, told.corners))
        self.assertTrue(closed_holds(WORLD, (None, None), told.papers[0], ("stale", "c")))
        self.assertTrue(check_stairs(WORLD, ("stale", "c"), told))
        nobody = World.read("part p\nplan\noff p")
        told = least_numbers(nobody, ("inside", "p"))
        self.assertEqual(((), ((),)), (told.vectors, told.corners))
        self.assertTrue(check_stairs(nobody, ("inside", "p"), told))

    def test_numbers_above_one(self):
        told = least_numbers(THREE, DARK)
        self.assertEqual((((1, 1),), ((0, None), (None, 0))), (told.vectors, told.corners))
        self.assertTrue(check_stairs(THREE, DARK, told))
        # Each a sets 1 once, and only who sees 1 sets 2: it takes two for one who sees 2.
        house = "part p\npart q\ndoor d out p open\ndoor e p q open\ncell c p\n"
        world = World.read(house + "kind a\ngo d\nwait c 0\nset c 1\nwait c 2\nset c 0\nkind b\ngo d\nwait c 1\nset c 2\nwait c 0\ngo e\n"
                           "plan\noff q")
        told = least_numbers(world, DARK)
        self.assertEqual(((1, 1),), told.vectors)
        alone = World.read(house + "kind a\ngo d\nsee c\nset c 1\nwhen 0 3\ngo e\nplan\noff q")
        self.assertEqual((((2,),), ((1,),)), (least_numbers(alone, DARK).vectors, least_numbers(alone, DARK).corners))

    def test_vectors_go_by_kinds(self):
        # One a goes in at once; of b it takes two.
        world = World.read(HOUSE + "kind a\ngo d\ngo e\nkind b\ngo d\nsee c\nset c 1\nwhen 0 3\ngo e\nplan\noff q")
        told = least_numbers(world, DARK)
        self.assertEqual((((0, 2), (1, 0)), ((0, 1),)), (told.vectors, told.corners))
        self.check_told(world, DARK, told)

    def test_as_trials_of_all_vectors(self):
        chance = random.Random(46)
        counts = {}
        for _ in range(25):
            world = random_world(chance, rows=3, deeds=3)
            if chance.random() < 0.5:
                world = world.with_plan([*world.plan.deeds[:1], ("drain", "p"), ("off", "p")])
            if len(Lots(world, none_of(world), 20000).standings) > 300:
                continue
            for harm in all_harms(world):
                told = least_numbers(world, harm)
                whole = [vector for vector in itertools.product(range(4), repeat=len(world.kinds)) if sum(vector) <= 3]
                good = [vector for vector in whole if comes(world, harm, vector)]
                least = [one for one in good if not any(two != one and all(a <= b for a, b in zip(two, one)) for two in good)]
                self.assertEqual(least, [vector for vector in told.vectors if sum(vector) <= 3])
                self.check_told(world, harm, told)
                counts[len(told.vectors)] = counts.get(len(told.vectors), 0) + 1
                first = least_guests(world, harm)
                self.assertEqual(None if first is None else first[0],
                                 min(told.vectors, key=lambda vector: (sum(vector), vector), default=None))
        self.assertGreater(counts[1], 5)
        self.assertGreater(counts[0], 5)
        self.assertGreater(counts.get(2, 0), 0)

    def check_told(self, world, harm, told):
        for vector, tale in zip(told.vectors, told.tales, strict=True):
            self.assertEqual(harm, Stage(world).play(tale)[1][1])
            comings = [f"come {kind.name}" for kind, many in zip(world.kinds, vector) for _ in range(many)]
            self.assertEqual(comings, list(tale[:len(comings)]))
            self.assertFalse(any(event.startswith("come") for event in tale[len(comings):]))
        self.assertEqual(list(told.vectors), sorted(told.vectors))
        self.assertEqual(list(told.corners), sorted(told.corners, key=key))
        for caps, paper in zip(told.corners, told.papers, strict=True):
            self.assertTrue(closed_holds(world, caps, paper, harm))
            # The greatest ones: one guest more of any kind, and it comes.
            for at, cap in enumerate(caps):
                if cap is not None:
                    self.assertIsNone(closed_paper(world, caps[:at] + (cap + 1,) + caps[at + 1:], harm))
        for vector in itertools.product(range(3), repeat=len(world.kinds)):
            self.assertNotEqual(any(is_above(vector, one) for one in told.vectors), any(is_below(vector, caps) for caps in told.corners))
        self.assertTrue(check_stairs(world, harm, told))
        self.assertTrue(told.is_like(least_numbers(world, harm)))


class Checks(unittest.TestCase):
    def test_each_part_bent(self):
        told = least_numbers(WORLD, DARK)
        parts = [told.vectors, told.tales, told.corners, told.papers]
        self.assertIs(True, check_stairs(world=WORLD, harm=list(DARK), value=Stairs(*parts)))
        for value in [*VALUES, tuple(parts), Verdict(told.vectors, told.papers)]:
            self.assertIs(False, check_stairs(WORLD, DARK, value))
        for at, part in enumerate(parts):
            for other in [*VALUES, *bent(part)] if at != 3 else [*VALUES, part[:-1], part[::-1], (*part, part[0]), (part[0][1:], part[1])]:
                if str(other) != str(part):
                    self.assertIs(False, check_stairs(WORLD, DARK, Stairs(*parts[:at], other, *parts[at + 1:])), (at, other))
        both = [part[::-1] for part in parts]
        self.assertIs(False, check_stairs(WORLD, DARK, Stairs(both[0], both[1], parts[2], parts[3])))
        self.assertIs(False, check_stairs(WORLD, DARK, Stairs(parts[0], parts[1], both[2], both[3])))
        # One vector less, with the corners that belong to it.
        self.assertIs(False, check_stairs(WORLD, DARK, Stairs(parts[0][:1], parts[1][:1], ((0, None), (None, 0)), parts[3])))
        # One that is above another one, with a tale of its own.
        tale = ("come a", "come a", "come b", *least_numbers(WORLD, DARK).tales[1][2:])
        self.assertEqual(DARK, Stage(WORLD).play(tale)[1][1])
        self.assertIs(False, check_stairs(WORLD, DARK, Stairs((*parts[0], (2, 1)), (*parts[1], tale), parts[2], parts[3])))
        self.assertIs(False, check_stairs(WORLD, DARK, Stairs((parts[0][0], (2, 1)), (parts[1][0], tale), parts[2], parts[3])))

    def test_tales_begin_with_the_comings(self):
        told = least_numbers(WORLD, DARK)
        for tale in [told.tales[1][1:], ("come a", *told.tales[1]), (*told.tales[1], "hand"), told.tales[1][:-1],
                     (told.tales[1][0], *told.tales[1][2:5], "come a", *told.tales[1][5:]), list(told.tales[1]), told.tales[0]]:
            self.assertIs(False, check_stairs(WORLD, DARK, Stairs(told.vectors, (told.tales[0], tale), told.corners, told.papers)), tale)
        # The harm once more behind the harm.
        twice = (told.tales[0], (*told.tales[1], told.tales[1][-1]))
        self.assertIs(False, check_stairs(WORLD, DARK, Stairs(told.vectors, twice, told.corners, told.papers)))
        # By kinds, in order; and nobody comes later.
        one, other, *rest = told.tales[0]
        swapped = tuple({"step 0": "step 1", "step 1": "step 0"}.get(event, event) for event in rest)
        self.assertEqual(DARK, Stage(WORLD).play((other, one, *swapped))[1][1])
        for tale in [(other, one, *swapped), (one, other, "come a", *rest), (one, other, *rest[:-1], "come b", rest[-1])]:
            self.assertEqual(DARK, Stage(WORLD).play(tale)[1][1])
            self.assertIs(False, check_stairs(WORLD, DARK, Stairs(told.vectors, (tale, told.tales[1]), told.corners, told.papers)), tale)

    def test_is_like(self):
        made = [Stairs((1,), None, None, None), Stairs((True,), None, None, None), Stairs(None, (1,), None, None),
                Stairs(None, None, (1,), None), Stairs(None, None, None, (1,)), Stairs(None, None, None, (0,)),
                Stairs(None, None, None, (False,)), Stairs(((0,),), None, None, None), Stairs(((False,),), None, None, None)]
        for at, one in enumerate(made):
            for to, other in enumerate(made):
                self.assertIs(at == to, one.is_like(other=other), (at, to))
            for value in [*VALUES, Verdict((1,), None)]:
                self.assertIs(False, one.is_like(value))
        whole = Stairs(vectors=(1,), tales=(2,), corners=(3,), papers=(4,))
        self.assertEqual(((1,), (2,), (3,), (4,)), (whole.vectors, whole.tales, whole.corners, whole.papers))

    def test_errors(self):
        for call in (least_numbers, lambda world, harm: check_stairs(world, harm, None)):
            for value in [*VALUES, ("shut in", "p"), ("dark",)]:
                self.assertEqual(("InvalidSize", "harm"), raised(call, WORLD, value), value)
            for harm in (("dark", "c"), ("lost", "p"), ["inside", "out"]):
                self.assertEqual(("NoName", harm[1]), raised(call, WORLD, harm))

    def test_too_many_standings(self):
        texts = "".join(f"kind {name}\ngo d\nsee c\nset c 1\nset e 2\ngo d\n" for name in "ab")
        world = World.read(f"part p\ndoor d out p open\ncell c p\ncell e p\n{texts}plan\ndrain p\noff p")
        self.assertEqual(("InvalidSize", "standings"), raised(least_numbers, world, ("stale", "c")))


if __name__ == "__main__":
    unittest.main()
