"""[1] to [3], [38]: closed papers against harms."""

import random
import unittest

from helpers import VALUES, bent, raised, random_world
from lightsout.closed import closed_holds, closed_paper
from lightsout.lots import Lots, first_standing, moves
from lightsout.plans import World

HOUSE = "part hall\ndoor gate out hall open\ncell c hall\n"
KINDS = "kind k\ngo gate\nset c 1\ngo gate\nkind r\ngo gate\nsee c\nplan\n"
SILENT = World.read(HOUSE + KINDS + "drain hall\noff hall\non hall")
TOLD = World.read(HOUSE + KINDS.replace("set c 1\n", "set c 1\ntell c\n") + "drain hall\noff hall\non hall")
CALM = World.read("part p\ndoor d out p open\nkind k\ngo d\ngo d\nkind m\ngo d\nplan\nshut d\non p")
LOST = ("lost", "c")
ANY = (None, None)


def holds_by_hand(world, caps, paper, harm):
    """Whether a sequence of unlike standings is closed, as [38] tells it."""
    if first_standing(world, caps) not in paper or len(set(paper)) < len(paper):
        return False
    for standing in paper:
        for _, behind, done in moves(world, caps, standing):
            if done is not None:
                if harm in (None, done):
                    return False
                continue
            if behind in paper:
                continue
            if any(word in ("drain", "off") for word, _ in world.plan.deeds[behind[2]:]):
                return False
            if not any(is_greater(caps, other, behind) for other in paper):
                return False
    return True


def is_greater(caps, other, one):
    if (one[0], one[2]) != (other[0], other[2]) or not set(one[1]) <= set(other[1]):
        return False
    return [place for place in one[1] if caps[place[0]] is not None] == [
        place for place in other[1] if caps[place[0]] is not None]


def harms_of(world):
    house = world.house
    return [(word, name) for word in ("inside", "dark") for name in house.parts] + [
        (word, cell[0]) for word in ("stale", "lost") for cell in house.cells]


class Papers(unittest.TestCase):
    def test_example(self):
        paper = closed_paper(SILENT, ANY, LOST)
        self.assertTrue(closed_holds(SILENT, ANY, paper, LOST))
        self.assertIsNone(closed_paper(TOLD, ANY, LOST))
        self.assertIsNone(closed_paper(SILENT, ANY, None))
        self.assertIs(True, closed_holds(world=SILENT, caps=ANY, paper=list(paper), harm=["lost", "c"]))
        self.assertIs(False, closed_holds(SILENT, ANY, paper, None))
        self.assertIs(False, closed_holds(SILENT, ANY, paper, ("inside", "hall")))
        # With one guest alone of the first kind and none of the second nothing is lost.
        self.assertTrue(closed_holds(TOLD, (1, 0), closed_paper(world=TOLD, caps=(1, 0), harm=LOST), LOST))
        self.assertIsNone(closed_paper(TOLD, (1, 1), LOST))

    def test_always_a_paper_or_a_story(self):
        chance = random.Random(31)
        papers = 0
        for _ in range(100):
            world = random_world(chance, rows=3, deeds=3)
            caps = tuple(chance.choice([None, None, 0, 1, 2]) for _ in world.kinds)
            lots = Lots(world, caps)
            for harm in [*harms_of(world), None]:
                paper = closed_paper(world, caps, harm)
                self.assertEqual(lots.calm if harm is None else harm not in lots.harms, paper is not None)
                if paper is not None:
                    self.assertTrue(closed_holds(world, caps, paper, harm))
                    self.assertTrue(holds_by_hand(world, caps, paper, harm))
                    papers += 1
                whole = lots.standings
                self.assertEqual(paper is not None, closed_holds(world, caps, whole, harm))
        self.assertGreater(papers, 100)

    def test_one_less_or_one_more(self):
        chance = random.Random(32)
        kept = broken = 0
        for _ in range(80):
            world = random_world(chance, rows=3, deeds=3)
            caps = tuple(chance.choice([None, None, 0, 1, 2]) for _ in world.kinds)
            standings = list(Lots(world, caps).standings)
            if len(standings) > 60:
                continue
            for harm in [None, chance.choice(harms_of(world))]:
                for _ in range(6):
                    paper = [one for one in standings if chance.random() < 0.93 or one is standings[0]]
                    asked = holds_by_hand(world, caps, paper, harm)
                    self.assertEqual(asked, closed_holds(world, caps, paper, harm))
                    self.assertEqual(asked, closed_holds(world, caps, tuple(paper[::-1]), harm))
                    kept += asked and len(paper) < len(standings)
                    broken += not asked
        self.assertGreater(kept, 3)
        self.assertGreater(broken, 100)

    def test_bent_papers(self):
        paper = closed_paper(CALM, ANY, None)
        self.assertIs(True, closed_holds(CALM, ANY, paper, None))
        for value in [paper[1:], (*paper, paper[0]), (*paper, None), (*paper, (paper[0][0], paper[0][1], 3)), [], (),
                      [list(standing) for standing in paper], *VALUES]:
            self.assertIs(False, closed_holds(CALM, ANY, value, None), value)
        for other in bent(paper[0]):
            self.assertIs(False, closed_holds(CALM, ANY, (other, *paper[1:]), None), other)

    def test_where_greater_ones_serve(self):
        lots = Lots(CALM, ANY)
        whole, short = lots.standings, closed_paper(CALM, ANY, None)
        self.assertLess(len(short), len(whole))
        # With a drain to come none serves: the same standings are no paper then.
        both = World.read(CALM.text() + "\ndrain p")
        self.assertIs(False, closed_holds(both, ANY, short, None))
        self.assertIs(False, closed_holds(both, ANY, [*short, *[(*one[:2], 3) for one in short if one[2] == 2]], None))
        self.assertIs(True, closed_holds(both, ANY, Lots(both, ANY).standings, None))
        # Behind the off they serve again.
        lit = World.read("part p\npart q\ndoor d out p open\nkind k\ngo d\ngo d\nplan\noff q\non q")
        paper = closed_paper(lit, (None,), None)
        self.assertIs(True, closed_holds(lit, (None,), paper, None))
        late = [standing for standing in paper if standing[2] > 0]
        self.assertLess(len(late), len([one for one in Lots(lit, (None,)).standings if one[2] > 0]))
        # Counted guests are never served by more of them.
        self.assertIs(True, closed_holds(lit, (2,), Lots(lit, (2,)).standings, None))
        for at in range(1, len(Lots(lit, (2,)).standings)):
            standings = Lots(lit, (2,)).standings
            self.assertIs(False, closed_holds(lit, (2,), standings[:at] + standings[at + 1:], None))

    def test_errors(self):
        for caps in [*VALUES, (1,), [None, None], (True, None), (None, -1)]:
            self.assertEqual(("InvalidSize", "caps"), raised(closed_paper, CALM, caps, 7), caps)
            self.assertEqual(("InvalidSize", "caps"), raised(closed_holds, CALM, caps, 7, 7), caps)
        for harm in [*VALUES, ("for ever", "p"), ("shut in", "p"), ("inside", None), ("inside",)]:
            if harm is not None:
                self.assertEqual(("InvalidSize", "harm"), raised(closed_paper, CALM, ANY, harm), harm)
                self.assertEqual(("InvalidSize", "harm"), raised(closed_holds, CALM, ANY, None, harm), harm)
        for harm in (("inside", "out"), ("stale", "p"), ("lost", ""), ("dark", "d")):
            self.assertEqual(("NoName", harm[1]), raised(closed_paper, CALM, ANY, harm))
            self.assertEqual(("NoName", harm[1]), raised(closed_holds, CALM, ANY, None, harm))

    def test_too_many(self):
        kinds = "".join(f"kind {name}\ngo d\nsee c\nset c 1\nset e 2\ngo d\n" for name in "ab")
        world = World.read(f"part p\ndoor d out p open\ncell c p\ncell e p\n{kinds}plan\noff p")
        self.assertEqual(("InvalidSize", "standings"), raised(closed_paper, world, ANY, None))
        self.assertEqual(("NoName", "x"), raised(closed_paper, world, ANY, ("lost", "x")))
        self.assertIs(False, closed_holds(world, ANY, (), None))


if __name__ == "__main__":
    unittest.main()
