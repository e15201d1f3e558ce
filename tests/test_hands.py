"""[2], [49], [50], [55], [56]: orders, rounds and hands."""

import itertools
import random
import unittest

from helpers import VALUES, raised
from lightsout.hands import (
    all_pairs, cover_pairs, hand_waits, least_hands, order_of_cut, rows_along, widest_lot)

P = ((0, 2), (1, 2), (2, 3))
N = ((0, 2), (1, 2), (1, 3))
WITH_MANY = (rows_along, least_hands, widest_lot)


def rows_by_hand(many, pairs):
    rows = itertools.permutations(range(many))
    return tuple(row for row in rows if all(row.index(one) < row.index(other) for one, other in pairs))


def follows_by_hand(many, pairs):
    """What stands ahead in each row along the order."""
    rows = rows_by_hand(many, pairs)
    both = itertools.permutations(range(many), 2)
    return tuple(pair for pair in both if all(row.index(pair[0]) < row.index(pair[1]) for row in rows))


def covers_by_hand(pairs):
    return tuple(pair for pair in pairs if not any((pair[0], mid) in pairs and (mid, pair[1]) in pairs
                                                   for mid in range(6)))


def partitions(row):
    if not row:
        yield []
        return
    for rest in partitions(row[1:]):
        yield [[row[0]], *rest]
        for at in range(len(rest)):
            yield [*rest[:at], [row[0], *rest[at]], *rest[at + 1:]]


def shares_by_hand(many, later):
    shares = []
    for lots in partitions(list(range(many))):
        chains = [chain for lot in lots for chain in itertools.permutations(lot)
                  if all(pair in later for pair in zip(chain, chain[1:]))]
        if len(chains) == len(lots):
            shares.append(tuple(sorted(chains)))
    return shares


def orders(many, how_often):
    """Some orders, the same each time."""
    chance = random.Random(many)
    for _ in range(how_often):
        row = chance.sample(range(many), many)
        both = list(itertools.combinations(row, 2))
        yield tuple(chance.sample(both, chance.randrange(len(both) + 1)))


class Pairs(unittest.TestCase):
    def test_by_hand(self):
        self.assertEqual(((0, 2), (0, 3), (1, 2), (1, 3), (2, 3)), all_pairs(P))
        self.assertEqual(P, cover_pairs(all_pairs(P)))
        self.assertEqual(((0, 1), (0, 2), (1, 2)), all_pairs([[1, 2], [0, 1], [1, 2]]))
        self.assertEqual(((0, 1), (1, 2)), cover_pairs(pairs=[(0, 2), (1, 2), (0, 1)]))
        self.assertEqual(((5, 0),), all_pairs(((5, 0),)))
        self.assertEqual(((), ()), (all_pairs([]), cover_pairs(pairs=())))
        self.assertEqual(((4, 0), (5, 4)), cover_pairs(((5, 4), (4, 0), (5, 0))))

    def test_many(self):
        for many in range(2, 6):
            for pairs in orders(many, 40):
                later = follows_by_hand(many, pairs)
                self.assertEqual(later, all_pairs(pairs))
                self.assertEqual(covers_by_hand(later), cover_pairs(pairs))
                self.assertEqual(later, all_pairs(cover_pairs(pairs)))

    def test_errors(self):
        for call in (all_pairs, cover_pairs):
            self.check_pairs(call, 6)
        for call in WITH_MANY:
            for many in (1, 2, 4, 6):
                self.check_pairs(lambda pairs, many=many, call=call: call(many, pairs), many)
        for many in (1, 2, 4, 6):
            self.check_pairs(lambda pairs, many=many: hand_waits(many, pairs, None), many)

    def check_pairs(self, call, many):
        for value in VALUES:
            if not isinstance(value, (list, tuple)):
                self.assertEqual(("InvalidOrder", 0), raised(call, value))
        good = (0, many - 1)
        wrong = [(0,), (0, 1, 1), (0, 0), (many, 0), (0, many), (-1, 0), (0, -1), (True, 0), (0, True), (0, None),
                 (None, 0), ("0", 1), ((0,), 0), "01", *VALUES]
        for value in wrong:
            self.assertEqual(("InvalidOrder", 0), raised(call, [value, None]), value)
            if many > 1:
                self.assertEqual(("InvalidOrder", 2), raised(call, [good, good, value]), value)
        if many > 1:
            self.assertEqual(("InvalidOrder", 2), raised(call, [good, good[::-1]]))
            self.assertEqual(("InvalidOrder", 3), raised(call, [good, good[::-1], good]))
            self.assertEqual(("InvalidOrder", 2), raised(call, [good, good[::-1], good][:2]))
        if many > 2:
            self.assertEqual(("InvalidOrder", 3), raised(call, [(0, 1), (1, 2), (2, 0)]))


class Rows(unittest.TestCase):
    def test_by_hand(self):
        self.assertEqual(((0, 1, 2, 3), (1, 0, 2, 3)), rows_along(4, P))
        self.assertEqual(((),), rows_along(0, ()))
        self.assertEqual(((0,),), rows_along(1, []))
        self.assertEqual(((0, 1), (1, 0)), rows_along(pairs=(), many=2))
        self.assertEqual(720, len(rows_along(6, ())))

    def test_many(self):
        for many in range(2, 6):
            for pairs in orders(many, 20):
                self.assertEqual(rows_by_hand(many, pairs), rows_along(many, list(pairs)))

    def test_many_is_wrong(self):
        for value in VALUES:
            if type(value) is not int or not 0 <= value <= 6:
                for call in WITH_MANY:
                    self.assertEqual(("InvalidSize", "deeds"), raised(call, value, None))
                self.assertEqual(("InvalidSize", "deeds"), raised(order_of_cut, value, None))
                self.assertEqual(("InvalidSize", "deeds"), raised(hand_waits, value, None, None))
        for call in WITH_MANY:
            self.assertIsNone(raised(call, 6, ()))
            self.assertEqual(("InvalidSize", "deeds"), raised(call, 7, ()))


class Cuts(unittest.TestCase):
    def test_by_hand(self):
        self.assertEqual(((0, 1), (0, 2), (1, 3), (2, 3)), order_of_cut(4, (1, 3)))
        self.assertEqual(((0, 2), (1, 2), (2, 3)), order_of_cut(4, [2, 3]))
        self.assertEqual((), order_of_cut(4, ()))
        self.assertEqual((), order_of_cut(0, []))
        self.assertEqual((), order_of_cut(1, []))
        self.assertEqual(((0, 1), (1, 2), (2, 3), (3, 4), (4, 5)), order_of_cut(cut=(1, 2, 3, 4, 5), many=6))

    def test_rounds(self):
        for many in range(7):
            for size in range(max(many, 1)):
                for cut in itertools.combinations(range(1, many), size):
                    rounds = [len([begin for begin in cut if begin <= one]) for one in range(many)]
                    later = tuple((one, other) for one in range(many) for other in range(many)
                                  if rounds[one] < rounds[other])
                    self.assertEqual(covers_by_hand(later), order_of_cut(many, cut))

    def test_errors(self):
        for value in VALUES:
            if not isinstance(value, (list, tuple)):
                self.assertEqual(("InvalidOrder", 0), raised(order_of_cut, 4, value))
            if type(value) is not int or not 1 <= value <= 3:
                self.assertEqual(("InvalidOrder", 0), raised(order_of_cut, 4, [value, None]))
                self.assertEqual(("InvalidOrder", 1), raised(order_of_cut, 4, (1, value)))
        self.assertEqual(("InvalidOrder", 1), raised(order_of_cut, 4, (2, 2)))
        self.assertEqual(("InvalidOrder", 2), raised(order_of_cut, 4, (1, 3, 2)))
        self.assertEqual(("InvalidOrder", 2), raised(order_of_cut, 4, (1, 3, 4)))
        self.assertEqual(("InvalidOrder", 0), raised(order_of_cut, 4, (4,)))
        self.assertEqual(("InvalidOrder", 0), raised(order_of_cut, 4, (0,)))
        self.assertEqual(("InvalidOrder", 0), raised(order_of_cut, 1, (1,)))
        self.assertEqual(("InvalidOrder", 0), raised(order_of_cut, 0, (1,)))


class Hands(unittest.TestCase):
    def test_example(self):
        self.assertEqual((((0,), (1, 2, 3)), (0, 1), ((0, 2),)),
                         (least_hands(4, P), widest_lot(4, P), hand_waits(4, P, ((0,), (1, 2, 3)))))

    def test_by_hand(self):
        self.assertEqual(((), ()), (least_hands(0, ()), widest_lot(0, ())))
        self.assertEqual((((0,),), (0,)), (least_hands(1, ()), widest_lot(1, ())))
        self.assertEqual((((0,), (1,), (2,)), (0, 1, 2)), (least_hands(3, ()), widest_lot(3, ())))
        self.assertEqual(((1,), (2, 0)), least_hands(many=3, pairs=((1, 0), (2, 0))))
        self.assertEqual((1, 2), widest_lot(pairs=((1, 0), (2, 0)), many=3))
        self.assertEqual(((0, 2), (1, 3)), least_hands(4, N))
        self.assertEqual(((0, 1), ((1, 2),)), (widest_lot(4, N), hand_waits(4, N, [[1, 3], [0, 2]])))
        # From 1 to 4 a hand may pass over 2: it follows all the same.
        self.assertEqual(((0, 2, 3), (1, 4)), least_hands(5, ((0, 2), (1, 2), (2, 3), (2, 4))))

    def test_many(self):
        for many in range(2, 6):
            for pairs in orders(many, 40):
                later = follows_by_hand(many, pairs)
                shares = shares_by_hand(many, later)
                fewest = min(len(share) for share in shares)
                hands = least_hands(many, list(pairs))
                self.assertEqual(min(share for share in shares if len(share) == fewest), hands)
                lots = [lot for size in range(many + 1) for lot in itertools.combinations(range(many), size)
                        if not any(pair in later for pair in itertools.permutations(lot, 2))]
                widest = max(len(lot) for lot in lots)
                self.assertEqual(min(lot for lot in lots if len(lot) == widest), widest_lot(many, pairs))
                self.assertEqual(len(hands), widest)
                for share in shares[:20]:
                    self.check_waits(many, pairs, share[::-1])

    def check_waits(self, many, pairs, share):
        near = [pair for chain in share for pair in zip(chain, chain[1:])]
        covers = cover_pairs(pairs)
        waits = hand_waits(many, pairs, share)
        self.assertEqual(tuple(pair for pair in covers if pair not in near), waits)
        self.assertEqual(all_pairs(pairs), all_pairs([*near, *waits]))

    def test_chains_are_wrong(self):
        for value in VALUES:
            if not isinstance(value, (list, tuple)):
                self.assertEqual(("InvalidOrder", 0), raised(hand_waits, 4, P, value))
            if value not in ([1], (1,)):
                self.assertEqual(("InvalidOrder", 1), raised(hand_waits, 4, P, [(0,), value, None]), value)
        wrong = [(), (4,), (-1,), (True,), (None,), (0, 1), (2, 0), (0, 0), (0, 2, 2), (0, None), "0", 0, (3, 2, 0)]
        for chain in wrong:
            self.assertEqual(("InvalidOrder", 0), raised(hand_waits, 4, P, [chain, None]), chain)
            self.assertEqual(("InvalidOrder", 1), raised(hand_waits, 4, P, ((1,), chain)), chain)
        self.assertEqual(("InvalidOrder", 1), raised(hand_waits, 4, P, [(0, 2), (1, 2), (3,)]))
        self.assertEqual(("InvalidOrder", 2), raised(hand_waits, 4, P, [(0, 2), (1, 3), (1,)]))
        self.assertEqual(("InvalidOrder", 2), raised(hand_waits, 4, P, [(0, 2), (3,)]))
        self.assertEqual(("InvalidOrder", 0), raised(hand_waits, 4, P, []))
        self.assertEqual(("InvalidOrder", 1), raised(hand_waits, 4, P, [(0, 3)]))
        self.assertEqual((), hand_waits(0, (), []))
        self.assertEqual(("InvalidOrder", 0), raised(hand_waits, 0, (), [()]))

    def test_which_error_is_first(self):
        self.assertEqual(("InvalidSize", "deeds"), raised(hand_waits, True, None, None))
        self.assertEqual(("InvalidOrder", 1), raised(hand_waits, 4, [(0, 1), None], None))
        self.assertEqual(("InvalidOrder", 2), raised(hand_waits, 4, [(0, 1), (1, 0)], None))

    def test_arguments_stay(self):
        pairs, chains = [[0, 2], [1, 2], [2, 3]], [[0], [1, 2, 3]]
        self.assertEqual(((0, 2),), hand_waits(4, pairs, chains))
        self.assertEqual(least_hands(4, pairs), least_hands(4, P))
        self.assertEqual(([[0, 2], [1, 2], [2, 3]], [[0], [1, 2, 3]]), (pairs, chains))


if __name__ == "__main__":
    unittest.main()
