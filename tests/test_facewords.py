"""[1] to [3], [83]: sentences, alike faces, and words of faces."""

import itertools
import random
import unittest

from helpers import VALUES, raised
from lightsout.facewords import holds, same_face, same_words
from lightsout.faces import Face, Inner, face, least
from lightsout.guests import Kind
from lightsout.house import House

HOUSE = House(["r"], [("a", "out", "r", True), ("b", "out", "r", True)], [("c", "r", False)])
ROWS = [[("go", "a"), ("go", "b")], [("go", "a"), ("see", "c"), ("go", "b")], [("go", "a"), ("go", "a")]]
ONE, TWO, THREE = [face(Inner(HOUSE, Kind("k", some), "a", "b"), [("drain", "r")], False) for some in ROWS]
CAN_OUT = ("can", "out", ())
# x leads to a state that can y and z, or to one that can y and one that can z.
WHOLE = Face(4, [(0, "x", 1), (1, "y", 2), (1, "z", 3)])
SPLIT = Face(4, [(0, "x", 1), (0, "x", 2), (1, "y", 3), (2, "z", 3)])


def shown_by_hand(machine):
    """All triples that are shown, by [81]."""
    hidden = {(one, one) for one in range(machine.states)} | {(one, to) for one, label, to in machine.triples if label == ""}
    while True:
        more = hidden | {(one, last) for one, mid in hidden for there, last in hidden if mid == there}
        if more == hidden:
            break
        hidden = more
    triples = {(one, "", to) for one, to in hidden}
    for here, label, there in machine.triples:
        if label:
            triples |= {(one, label, to) for one, mid in hidden if mid == here for near, to in hidden if near == there}
    return triples


def holds_by_hand(triples, state, sentence):
    if sentence[0] == "not":
        return not holds_by_hand(triples, state, sentence[1])
    return any(one == state and label == sentence[1] and all(holds_by_hand(triples, to, part) for part in sentence[2])
               for one, label, to in triples)


def depth(sentence):
    if sentence[0] == "not":
        return depth(sentence[1])
    return 1 + max([depth(part) for part in sentence[2]], default=0)


def alike_by_hand(one, other):
    """The pairs of alike states, and the least depth at which each other pair of states is told apart."""
    sides = [shown_by_hand(one), shown_by_hand(other)]
    states = [(0, state) for state in range(one.states)] + [(1, state) for state in range(other.states)]
    shown = {(side, state): {(label, (side, to)) for here, label, to in sides[side] if here == state} for side, state in states}
    apart = {}
    for many in itertools.count(1):
        found = []
        for left, right in itertools.product(states, states):
            if (left, right) in apart:
                continue
            for first, second in ((left, right), (right, left)):
                if any(all(other != label or (to, there) in apart for other, there in shown[second])
                       for label, to in shown[first]):
                    found.append((left, right))
                    break
        if not found:
            break
        apart.update({pair: many for pair in found})
    alike = tuple((left, right) for left in range(one.states) for right in range(other.states)
                  if ((0, left), (1, right)) not in apart)
    return alike, apart.get(((0, 0), (1, 0)))


def words_of(machine, most):
    """All words up to a length, with the lots of states to which they lead."""
    triples = shown_by_hand(machine)
    labels = sorted({label for _, label, _ in machine.triples} - {""})
    words = {(): tuple(sorted(to for one, label, to in triples if one == 0 and label == ""))}
    for many in range(most):
        for word in [word for word in words if len(word) == many]:
            for label in labels:
                lot = tuple(sorted({to for one, told, to in triples if one in words[word] and told == label}))
                if lot:
                    words[(*word, label)] = lot
    return words


def random_face(chance, most=4, labels=("", "x", "y")):
    states = chance.randrange(1, most + 1)
    triples = [(chance.randrange(states), chance.choice(labels), chance.randrange(states))
               for _ in range(chance.randrange(1, 2 * most))]
    return Face(states, triples)


def random_sentence(chance, deep):
    if deep == 0 or chance.random() < 0.2:
        return "can", chance.choice(["", "x", "y", "z"]), ()
    if chance.random() < 0.3:
        return "not", random_sentence(chance, deep - 1)
    parts = tuple(random_sentence(chance, deep - 1) for _ in range(chance.randrange(3)))
    return "can", chance.choice(["", "x", "y"]), parts


class Sentences(unittest.TestCase):
    def test_by_hand(self):
        self.assertIs(True, holds(ONE, 0, CAN_OUT))
        self.assertIs(False, holds(machine=THREE, state=0, sentence=CAN_OUT))
        self.assertIs(True, holds(THREE, 0, ("not", CAN_OUT)))
        both = ("can", "x", (("can", "y", ()), ("can", "z", ())))
        self.assertEqual((True, False), (holds(WHOLE, 0, both), holds(SPLIT, 0, both)))
        self.assertEqual((False, True), (holds(WHOLE, 0, ("can", "x", (("not", ("can", "y", ())),))),
                                         holds(SPLIT, 0, ("can", "x", (("not", ("can", "y", ())),)))))
        # "" leads to the state itself, too; what hidden moves lead to shows through.
        hidden = Face(3, [(0, "", 1), (1, "x", 2), (2, "", 0)])
        self.assertIs(True, holds(hidden, 2, ("can", "x", (("can", "x", ()),))))
        self.assertIs(True, holds(WHOLE, 2, ("can", "", (("not", ("can", "y", ())),))))
        self.assertIs(False, holds(WHOLE, 2, ("can", "", (("can", "y", ()),))))
        self.assertIs(True, holds(ONE, 1, ("not", ("can", "hand drain r", ()))))

    def test_as_by_hand(self):
        chance = random.Random(71)
        seen = {True: 0, False: 0}
        for _ in range(300):
            machine, sentence = random_face(chance), random_sentence(chance, chance.randrange(6))
            triples = shown_by_hand(machine)
            for state in range(machine.states):
                asked = holds_by_hand(triples, state, sentence)
                self.assertIs(asked, holds(machine, state, sentence))
                seen[asked] += 1
        self.assertGreater(min(seen.values()), 100)

    def test_deep(self):
        sentence = ("can", "x", ())
        for _ in range(7):
            sentence = ("not", ("can", "x", (sentence,)))
        ring = Face(2, [(0, "x", 1), (1, "x", 0)])
        self.assertIs(holds_by_hand(shown_by_hand(ring), 0, sentence), holds(ring, 0, sentence))

    def test_errors(self):
        for value in [*VALUES, ONE.triples]:
            self.assertEqual(("InvalidSize", "face"), raised(holds, value, None, None), value)
            self.assertEqual(("InvalidSize", "face"), raised(same_face, value, ONE), value)
            self.assertEqual(("InvalidSize", "face"), raised(same_face, ONE, value), value)
            self.assertEqual(("InvalidSize", "face"), raised(same_words, value, ONE), value)
            self.assertEqual(("InvalidSize", "face"), raised(same_words, ONE, value), value)
        for state in [*VALUES, ONE.states]:
            if isinstance(state, bool) or state not in (0, 1):
                self.assertEqual(("InvalidSize", "state"), raised(holds, ONE, state, None), state)
        wrong = [*VALUES, ("can", "out"), ("can", "out", [()]), ("can", "out", (), ()), ("can", 1, ()), ("can", "out", None),
                 ("not",), ("not", CAN_OUT, CAN_OUT), ("not", None), ("cannot", CAN_OUT), ("can", "out", []), [*CAN_OUT],
                 ("can", "out", CAN_OUT), ("can", "out", (CAN_OUT, None)), ("not", ("not", ("can", "out"))), ["not", CAN_OUT],
                 ("Can", "out", ()), ("can", None, ()), ("can", "out", ([*CAN_OUT],))]
        for value in wrong:
            self.assertEqual(("InvalidSize", "sentence"), raised(holds, ONE, 0, value), value)
        self.assertIs(False, holds(ONE, 0, ("can", "never shown", ())))


class Alike(unittest.TestCase):
    def test_example(self):
        self.assertEqual((True, ((0, 0), (1, 1))), same_face(ONE, TWO))
        self.assertEqual((False, CAN_OUT), same_face(one=ONE, other=THREE))
        self.assertEqual((False, ("not", CAN_OUT)), same_face(THREE, ONE))
        told, sentence = same_face(WHOLE, SPLIT)
        self.assertEqual((False, 2), (told, depth(sentence)))
        self.assertTrue(holds(WHOLE, 0, sentence) and not holds(SPLIT, 0, sentence))

    def test_as_by_hand(self):
        chance = random.Random(72)
        depths, alike = {}, 0
        for number in range(400):
            labels = ("", "x", "y") if number % 2 else ("x", "y")
            one, other = random_face(chance, 5, labels), random_face(chance, 5, labels)
            if number % 5 == 0:
                other = least(one)
            pairs, many = alike_by_hand(one, other)
            told, paper = same_face(one, other)
            self.assertEqual(many is None, told)
            if told:
                self.assertEqual(pairs, paper)
                alike += 1
                continue
            self.assertEqual(many, depth(paper))
            self.assertTrue(holds(one, 0, paper))
            self.assertFalse(holds(other, 0, paper))
            depths[many] = depths.get(many, 0) + 1
        self.assertGreater(alike, 60)
        self.assertGreater(min(depths.get(many, 0) for many in (1, 2, 3)), 1, depths)

    def test_long_chains(self):
        # What comes last is told apart at a depth of just so much more.
        for many in (5, 9, 11):
            rows = [(at, "x", at + 1) for at in range(many)]
            one, other = Face(many + 1, rows), Face(many + 1, [*rows, (many, "y", 0)])
            told, sentence = same_face(one, other)
            self.assertEqual((False, many + 1), (told, depth(sentence)))
            self.assertTrue(holds(one, 0, sentence) and not holds(other, 0, sentence))

    def test_a_face_and_itself(self):
        self.assertEqual((True, ((0, 0), (1, 1))), same_face(ONE, ONE))
        self.assertEqual((True, ((0, 0), (0, 1), (1, 0), (1, 1))), same_face(Face(2, []), Face(2, [(0, "", 1)])))


class Words(unittest.TestCase):
    def test_by_hand(self):
        self.assertEqual((True, (((0, 1), (0, 1)),)), same_words(ONE, TWO))
        self.assertEqual((False, ("out",)), same_words(one=ONE, other=THREE))
        self.assertEqual((False, ("out",)), same_words(THREE, ONE))
        # The same words, but not alike.
        self.assertEqual((True, (((0,), (0,)), ((1,), (1, 2)), ((2,), (3,)), ((3,), (3,)))), same_words(WHOLE, SPLIT))
        self.assertIs(False, same_face(WHOLE, SPLIT)[0])
        self.assertEqual((False, ("x", "z")), same_words(WHOLE, Face(3, [(0, "x", 1), (1, "y", 2)])))
        self.assertEqual((True, (((0,), (0, 1)),)), same_words(Face(1, []), Face(2, [(0, "", 1)])))

    def test_as_by_hand(self):
        chance = random.Random(73)
        same = 0
        lengths = {}
        for number in range(300):
            labels = ("", "x", "y") if number % 2 else ("", "x")
            one, other = random_face(chance, 3, labels), random_face(chance, 3, labels)
            if number % 5 == 0:
                other = least(one)
            words, others = words_of(one, 7), words_of(other, 7)
            only = [word for word in (*words, *others) if (word in words) != (word in others)]
            told, paper = same_words(one, other)
            if told:
                same += 1
                self.assertEqual([], only)
                self.assertEqual(tuple(sorted({(words[word], others[word]) for word in words})), paper)
                continue
            self.assertEqual(min(len(word) for word in only), len(paper))
            self.assertIn(paper, only)
            lengths[len(paper)] = lengths.get(len(paper), 0) + 1
        self.assertGreater(same, 60)
        self.assertGreater(min(lengths.get(many, 0) for many in (1, 2)), 5, lengths)

    def test_alike_faces_have_the_same_words(self):
        chance = random.Random(74)
        for _ in range(100):
            one, other = random_face(chance), random_face(chance)
            if same_face(one, other)[0]:
                self.assertTrue(same_words(one, other)[0])
            self.assertTrue(same_words(one, least(one))[0])


if __name__ == "__main__":
    unittest.main()
