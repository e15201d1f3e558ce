"""[2], [23], [24]: programs by themselves."""

import random
import unittest

from helpers import VALUES, raised
from lightsout.guests import Kind
from lightsout.programs import answers_apart, answers_of, can_do, is_one, least_form, one_pairs

EXAMPLE = Kind("k", [("go", "d"), ("see", "c"), ("when", 1, 5), ("set", "c", 1), ("again", 1), ("go", "d")])
OTHER = Kind("m", EXAMPLE.rows[:4] + (("again", 3), ("go", "d")))
WORDS = [("go", "d"), ("see", "c"), ("see", "e"), ("use", "c"), ("use", "e"), ("tell", "c"), ("rest",)]


def some_kinds(seed, how_many):
    chance = random.Random(seed)
    for _ in range(how_many):
        many = chance.randrange(1, 7)
        rows = []
        for _ in range(many):
            jump = chance.choice([("when", chance.randrange(3), chance.randrange(many + 1)),
                                  ("again", chance.randrange(many + 1))])
            rows.append(chance.choice([jump, jump, jump, ("see", "c"), *WORDS]))
        yield Kind("k", rows)


def after(kind, answers):
    """The deed behind a row of answers, None where the answers are none, by going row by row."""
    at, pocket, left, idle = 0, None, list(answers), 0
    while True:
        if at >= len(kind.rows) or kind.rows[at] == ("rest",) or idle > 20:
            return None if left else ("rest",)
        row = kind.rows[at]
        idle += 1
        if row[0] == "again":
            at = row[1]
        elif row[0] == "when":
            at = row[2] if pocket and pocket[1] == row[1] else at + 1
        elif row[0] == "use" and (not pocket or pocket[0] != row[1]):
            at += 1
        else:
            if not left:
                return row
            answer, idle = left.pop(0), 0
            if answer not in ((0, 1, 2) if row[0] == "see" else ("done",)):
                return None
            if row[0] == "see":
                pocket = (row[1], answer)
            at += 1


def rows_of_answers(kind, most):
    """All rows of answers that a kind may get, the shortest first, then in order."""
    level = [()]
    for _ in range(most + 1):
        yield from level
        level = [(*row, answer) for row in level for answer in answers_of(after(kind, row))]


def apart_by_hand(kind, other, most):
    """The least row of answers behind which the deeds are unlike, as far as rows of some length go."""
    for row in rows_of_answers(kind, most):
        if after(kind, row) != after(other, row):
            return row
    return None


class Forms(unittest.TestCase):
    def test_answers_of(self):
        self.assertEqual((0, 1, 2), answers_of(("see", "c")))
        self.assertEqual((), answers_of(("rest",)))
        for deed in (("go", "d"), ("shut", "d"), ("open", "d"), ("set", "c", 1), ("wait", "c", 0), ("tell", "c"),
                     ("use", "c")):
            self.assertEqual(("done",), answers_of(deed=deed))

    def test_example(self):
        self.assertEqual(((("go", "d"), (1,)), (("see", "c"), (2, 3, 2)), (("set", "c", 1), (1,)), (("go", "d"), (4,)),
                          (("rest",), ())), least_form(EXAMPLE))
        self.assertEqual((("done", 0, "done"), ("done", 0)),
                         (answers_apart(EXAMPLE, OTHER), can_do(EXAMPLE, ("set", "c", 1))))
        one, two = Kind("a", [("go", "d"), ("go", "d"), ("see", "c")]), Kind("b", [("go", "d"), ("go", "d"), ("set", "c", 1)])
        self.assertIs(False, is_one(one, two))
        self.assertEqual(("done", "done"), answers_apart(one, two))

    def test_rests(self):
        rest = ((("rest",), ()),)
        for rows in ([("rest",)], [("again", 1)], [("again", 0)], [("again", 1), ("again", 0)], [("when", 0, 0)],
                     [("use", "c")], [("use", "c"), ("again", 0)], [("rest",), ("go", "d")], [("when", 1, 2), ("rest",)],
                     [("again", 3), ("go", "d"), ("go", "d"), ("when", 2, 1), ("again", 3)]):
            self.assertEqual(rest, least_form(kind=Kind("k", rows)), rows)

    def test_a_use_that_counts_and_one_that_does_not(self):
        see, use = ("see", "c"), ("use", "c")
        self.assertEqual(((see, (1, 1, 1)), (use, (2,)), (("rest",), ())), least_form(Kind("k", [see, use])))
        self.assertEqual(least_form(Kind("k", [see])), least_form(Kind("k", [use, see])))
        self.assertEqual(least_form(Kind("k", [see])), least_form(Kind("k", [see, ("use", "e")])))
        later = Kind("k", [see, ("see", "e"), use])
        self.assertEqual(least_form(Kind("k", [see, ("see", "e")])), least_form(later))
        self.assertIsNone(can_do(later, use))
        self.assertEqual((0,), can_do(Kind("k", [see, use]), use))
        # Round again: at first the pocket has nothing, then something of c.
        ring = Kind("k", [use, see, ("again", 0)])
        self.assertEqual(((see, (1, 1, 1)), (use, (0,))), least_form(ring))

    def test_numbered_as_they_come(self):
        kind = Kind("k", [("see", "c"), ("when", 0, 4), ("when", 1, 5), ("tell", "c"), ("go", "d"), ("go", "e")])
        self.assertEqual(((("see", "c"), (1, 2, 3)), (("go", "d"), (2,)), (("go", "e"), (4,)), (("tell", "c"), (1,)),
                          (("rest",), ())), least_form(kind))

    def test_nodes_that_are_one(self):
        self.assertEqual(((("go", "d"), (0,)),), least_form(Kind("k", [("go", "d"), ("go", "d"), ("again", 0)])))
        self.assertEqual(((("see", "c"), (0, 0, 0)),),
                         least_form(Kind("k", [("see", "c"), ("when", 1, 0), ("see", "c"), ("again", 0)])))

    def test_is_one(self):
        ring, pair = Kind("k", [("go", "d"), ("again", 0)]), Kind("m", [("go", "d"), ("go", "d"), ("again", 0)])
        self.assertIs(True, is_one(ring, pair))
        self.assertEqual(((0, 0, None), (1, 1, None), (1, 2, None)), one_pairs(ring, pair))
        self.assertEqual(((0, 0, None), (1, 1, None), (2, 1, None)), one_pairs(kind=pair, other=ring))
        self.assertIsNone(answers_apart(ring, pair))
        self.assertTrue(is_one(kind=EXAMPLE, other=Kind("z", EXAMPLE.rows)))
        self.assertFalse(is_one(EXAMPLE, OTHER))
        self.assertIsNone(one_pairs(EXAMPLE, OTHER))

    def test_pairs_by_hand(self):
        see = Kind("k", [("see", "c"), ("see", "e")])
        more = Kind("k", [("again", 2), ("rest",), ("see", "c"), ("use", "e"), ("see", "e")])
        seen = [(1, 3, ("c", value)) for value in range(3)]
        self.assertEqual(((0, 0, None), *seen, *[(2, 5, ("e", value)) for value in range(3)]), one_pairs(see, more))
        round_again = Kind("k", [("see", "c"), ("again", 0)])
        self.assertEqual(((0, 0, None), *[(1, 1, ("c", value)) for value in range(3)]), one_pairs(round_again, round_again))
        # Both a pocket and none with the same rows: no pocket comes first.
        both = Kind("k", [("tell", "c"), ("see", "c"), ("again", 0)])
        self.assertEqual(((0, 0, None), (1, 1, None), (1, 1, ("c", 0)), (1, 1, ("c", 1)), (1, 1, ("c", 2)),
                          (2, 2, ("c", 0)), (2, 2, ("c", 1)), (2, 2, ("c", 2))), one_pairs(both, both))
        # The pockets of e come ahead of those of c, and stand behind them.
        round_two = Kind("k", [("see", "e"), ("tell", "x"), ("see", "c"), ("again", 1)])
        pockets = [(name, value) for name in "ce" for value in range(3)]
        self.assertEqual(((0, 0, None), *[(1, 1, ("e", value)) for value in range(3)], *[(2, 2, pocket) for pocket in pockets],
                          *[(3, 3, ("c", value)) for value in range(3)]), one_pairs(round_two, round_two))


class ByHand(unittest.TestCase):
    def test_kinds_that_are_one_and_not(self):
        kinds = list(some_kinds(1, 45))
        for one in kinds:
            for other in kinds:
                row = apart_by_hand(one, other, 5)
                apart = answers_apart(one, other)
                if row is not None:
                    self.assertEqual(row, apart)
                self.assertEqual(apart is None, is_one(one, other))
                self.assertEqual(apart is None, one_pairs(one, other) is not None)
                if apart is not None:
                    self.assertNotEqual(after(one, apart), after(other, apart))
                    self.assertTrue(row is not None or len(apart) > 5)

    def test_forms(self):
        for kind in some_kinds(2, 150):
            form = least_form(kind)
            for row in rows_of_answers(kind, 4):
                node = 0
                for answer in row:
                    node = form[node][1][answer if answer != "done" else 0]
                self.assertEqual(after(kind, row), form[node][0])
            come = [0]
            for node in come:
                come.extend(sorted(set(form[node][1]) - set(come), key=form[node][1].index))
            self.assertEqual(list(range(len(form))), come)
            self.assertEqual(len({answers_row(form, node) for node in range(len(form))}), len(form))

    def test_pairs(self):
        for kind in some_kinds(3, 80):
            pairs = one_pairs(kind, kind)
            self.assertEqual(sorted(set(pairs), key=lambda pair: (pair[:2], pair[2] or ())), list(pairs))
            self.assertIn((0, 0, None), pairs)
            self.assertTrue(all(one == other for one, other, _ in pairs))

    def test_can_do(self):
        deeds = [*WORDS[:-1], ("go", "zz"), ("set", "c", 2)]
        for kind in some_kinds(4, 80):
            for deed in deeds:
                row = can_do(kind, deed)
                by_hand = next((told for told in rows_of_answers(kind, 5) if after(kind, told) == deed), None)
                if by_hand is not None or row is None:
                    self.assertEqual(by_hand, row)
                else:
                    self.assertGreater(len(row), 5)

    def test_can_do_takes_deeds_alone(self):
        wrong = [("when", 0, 0), ("again", 0), ("rest",), ("go",), ("go", "out"), ("go", 1), ("set", "c"),
                 ("set", "c", 3), ("set", "c", True), ("wait", "c", None), ("use", "c", 0), ("drain", "p"), "go d", (),
                 (["go"], "d"), *VALUES]
        for deed in wrong:
            self.assertEqual(("InvalidGuest", 0), raised(can_do, EXAMPLE, deed), deed)
        self.assertEqual((), can_do(kind=EXAMPLE, deed=["go", "d"]))
        self.assertIsNone(can_do(EXAMPLE, ("set", "c", 2)))
        self.assertIsNone(can_do(EXAMPLE, ("set", "c", 0)))
        self.assertEqual(("done",), can_do(EXAMPLE, ("see", "c")))

    def test_names_that_are_words(self):
        kind = Kind("rest", [("go", "see"), ("see", "rest"), ("use", "rest"), ("tell", "rest"), ("shut", "rest")])
        self.assertEqual(((("go", "see"), (1,)), (("see", "rest"), (2, 2, 2)), (("use", "rest"), (3,)),
                          (("tell", "rest"), (4,)), (("shut", "rest"), (5,)), (("rest",), ())), least_form(kind))
        self.assertEqual(("done",), answers_of(("tell", "rest")))
        self.assertEqual(("done", 0, "done", "done"), can_do(kind, ("shut", "rest")))


def answers_row(form, node):
    """What comes of a node, to a depth at which all nodes of a form are told apart."""
    level, told = [node], []
    for _ in range(len(form)):
        told.append(tuple(form[at][0] for at in level))
        level = [other for at in level for other in form[at][1]][:200]
    return tuple(told)


if __name__ == "__main__":
    unittest.main()
