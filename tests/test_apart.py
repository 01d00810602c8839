"""Tests of withpebble.nets.apart: points 1 and 3 of the document and what holds by a, as far as they speak of it."""

import itertools
import subprocess
import sys
import unittest

from tests.helpers import (
    FIVE_ALL_LINKED, FOUR_ALL_LINKED_AND_ALIKE, PATH_OF_FIVE, PATH_OF_THREE, RING_OF_FIVE, RING_OF_FOUR,
    RING_OF_FOUR_ALL_ALIKE, RING_OF_SIX, RING_OF_SIX_ALL_ALIKE, RING_OF_THREE, STAR, HoldsForEachCall,
    RefusesManyPlaces, different_nets, lists_of_links, namings, places_met, renamed,
)
from withpebble.nets import apart, exits_of_places, links_of, seen, shortest_word_apart

# No two nets of at most 5 places need a longer word; a search in vain is to end all the same.
LONGEST = 5


def tells_apart(n, m, u, v, net, second, word):
    return seen(n, u, net, word) != seen(m, v, second, word)


def first_word_of_all(n, m, u, v, net, second):
    """The first word that tells apart, by going through all words, the shorter ones first; None if none is met."""
    letters = range(3 + max([net.count(place) for place in range(n)] + [second.count(place) for place in range(m)]))
    for length in range(LONGEST + 1):
        for word in itertools.product(letters, repeat=length):
            if tells_apart(n, m, u, v, net, second, list(word)):
                return list(word)
    return None


def searched(n, m, u, v, net, second):
    """What apart searches for, also for nets that it refuses for their many places."""
    return shortest_word_apart(exits_of_places(n, links_of(net)), exits_of_places(m, links_of(second)), u, v)


class Apart(unittest.TestCase):
    """A TestCase with the checks that the others share."""

    def never(self, n, m, u, v, net, second):
        self.assertEqual(apart(n, m, u, v, net, second), [-6], (n, m, u, v, net, second))

    def told(self, word, n, m, u, v, net, second):
        """apart answers this word, and by seen it's the first of the shortest."""
        values = (n, m, u, v, net, second)
        self.assertEqual(apart(*values), [len(word)] + word, values)
        self.assertEqual(first_word_of_all(*values), word, values)


class ToldApart(Apart):
    def test_by_the_empty_word(self):
        self.told([], 3, 3, 0, 1, PATH_OF_THREE, PATH_OF_THREE)
        self.told([], 3, 3, 0, 0, PATH_OF_THREE, RING_OF_THREE)
        self.told([], 4, 5, 0, 0, STAR, FIVE_ALL_LINKED)
        self.told([], 1, 2, 0, 0, [], [0, 1])
        self.told([], 2, 1, 1, 0, [0, 1], [])

    def test_by_one_letter(self):
        # The exit by which one comes in differs.
        self.told([3], 3, 3, 0, 2, PATH_OF_THREE, PATH_OF_THREE)
        self.told([4], 3, 3, 0, 1, RING_OF_THREE, RING_OF_THREE)
        # The number of exits of the next place differs.
        self.told([3], 2, 3, 0, 0, [0, 1], PATH_OF_THREE)
        self.told([3], 3, 4, 0, 1, PATH_OF_THREE, STAR)
        self.told([4], 3, 4, 1, 1, PATH_OF_THREE, [0, 1, 1, 2, 2, 3])

    def test_by_the_last_letter_that_there_is(self):
        # Exit 3 of a place with four: as great a letter as may be told.
        self.told([6], 5, 5, 0, 0, [0, 1, 0, 2, 0, 3, 0, 4, 3, 4], [0, 1, 0, 2, 0, 3, 3, 4, 0, 4])
        self.told([5], 4, 5, 0, 0, STAR, STAR + [3, 4])

    def test_by_two_letters(self):
        # The first exits look the same; what comes behind them differs.
        self.told([3, 4], 3, 4, 0, 0, PATH_OF_THREE, [0, 1, 1, 2, 2, 3])
        self.told([4, 4], 4, 5, 1, 1, [0, 1, 1, 2, 2, 3], PATH_OF_FIVE)
        self.told([3, 5], 4, 5, 1, 1, STAR, STAR + [3, 4])

    def test_by_three_letters(self):
        self.told([3, 4, 4], 5, 5, 0, 0, [0, 1, 1, 2, 3, 4, 2, 3], PATH_OF_FIVE)
        self.told([3, 3, 3], 5, 5, 0, 0, [2, 3, 2, 4, 1, 2, 0, 1], [3, 4, 2, 3, 2, 4, 1, 2, 0, 1])
        self.told(
            [3, 4, 5], 5, 5, 0, 0,
            [0, 1, 1, 3, 3, 4, 1, 4, 2, 3, 2, 4, 1, 2, 0, 2], [0, 1, 1, 3, 3, 4, 1, 4, 2, 4, 2, 3, 1, 2, 0, 2],
        )
        self.told(
            [3, 5, 5], 5, 5, 0, 0,
            [1, 2, 0, 1, 1, 3, 1, 4, 3, 4, 2, 3, 2, 4, 0, 2], [1, 2, 0, 1, 1, 3, 1, 4, 3, 4, 2, 4, 2, 3, 0, 2],
        )

    def test_by_four_letters(self):
        self.told([3, 3, 4, 4], 5, 4, 0, 0, [1, 2, 2, 4, 3, 4, 1, 3, 0, 1], [1, 2, 2, 3, 1, 3, 0, 1])
        self.told([3, 4, 4, 4], 5, 4, 0, 0, [0, 1, 1, 2, 2, 4, 3, 4, 1, 3], [0, 1, 1, 2, 2, 3, 1, 3])

    def test_rings(self):
        self.told([3, 4, 4], 3, 4, 0, 0, RING_OF_THREE, RING_OF_FOUR)
        self.told([3, 4, 4], 3, 5, 0, 0, RING_OF_THREE, RING_OF_FIVE)
        self.told([3, 4, 4, 4], 4, 5, 0, 0, RING_OF_FOUR, RING_OF_FIVE)

    def test_rings_the_other_way_round(self):
        self.told([3, 4, 4], 4, 3, 0, 0, RING_OF_FOUR, RING_OF_THREE)
        self.told([3, 4, 4, 4], 5, 4, 0, 0, RING_OF_FIVE, RING_OF_FOUR)

    def test_rings_from_every_place(self):
        rings = [(3, RING_OF_THREE), (4, RING_OF_FOUR), (4, RING_OF_FOUR_ALL_ALIKE), (5, RING_OF_FIVE)]
        for (n, net), (m, second) in itertools.permutations(rings, 2):
            for u in range(n):
                for v in range(m):
                    self.told(first_word_of_all(n, m, u, v, net, second), n, m, u, v, net, second)

    def test_a_place_with_one_exit_in_both(self):
        self.told([3], 2, 4, 1, 3, [0, 1], STAR)
        self.told([3], 4, 4, 1, 3, STAR, STAR)


class NeverToldApart(Apart):
    def test_a_net_and_itself(self):
        for n, net in ((1, []), (2, [0, 1]), (3, PATH_OF_THREE), (3, RING_OF_THREE), (4, STAR), (5, FIVE_ALL_LINKED)):
            for u in range(n):
                self.never(n, n, u, u, net, net)
                self.never(n, n, u, u, net, list(net))

    def test_two_places_with_one_exit(self):
        for u in range(2):
            for v in range(2):
                self.never(2, 2, u, v, [0, 1], [1, 0])

    def test_places_named_otherwise(self):
        for n, net in ((3, PATH_OF_THREE), (3, RING_OF_THREE), (4, STAR), (5, RING_OF_FIVE), (5, FIVE_ALL_LINKED)):
            for names in itertools.permutations(range(n)):
                for u in range(n):
                    self.never(n, n, u, names[u], net, renamed(net, names))

    def test_the_ring_of_four_all_alike(self):
        for u in range(4):
            for v in range(4):
                self.never(4, 4, u, v, RING_OF_FOUR_ALL_ALIKE, RING_OF_FOUR_ALL_ALIKE)

    def test_four_places_all_linked_and_alike(self):
        for u in range(4):
            for v in range(4):
                self.never(4, 4, u, v, FOUR_ALL_LINKED_AND_ALIKE, FOUR_ALL_LINKED_AND_ALIKE)

    def test_two_places_that_no_naming_brings_together(self):
        for n, net in ((3, RING_OF_THREE), (4, RING_OF_FOUR), (5, RING_OF_FIVE), (4, STAR), (5, FIVE_ALL_LINKED)):
            for u, v in itertools.permutations(range(n), 2):
                self.assertEqual(namings(n, n, u, v, net, net), [])
                self.told(first_word_of_all(n, n, u, v, net, net), n, n, u, v, net, net)


class LinksInAnotherOrder(Apart):
    def test_the_numbers_of_exits_change(self):
        self.told([3], 3, 3, 0, 0, PATH_OF_THREE, [1, 2, 0, 1])
        self.told([3], 3, 3, 0, 0, RING_OF_THREE, [1, 2, 0, 1, 2, 0])
        self.told([3], 4, 4, 1, 1, STAR, [0, 2, 0, 1, 3, 0])

    def test_the_numbers_of_exits_change_but_elsewhere_it_is_the_same(self):
        self.never(3, 3, 0, 2, PATH_OF_THREE, [1, 2, 0, 1])
        self.never(3, 3, 0, 1, RING_OF_THREE, [1, 2, 2, 0, 0, 1])
        self.never(4, 4, 1, 2, STAR, [0, 2, 0, 1, 3, 0])
        self.never(4, 4, 0, 0, STAR, [0, 2, 0, 1, 3, 0])

    def test_the_numbers_of_exits_stay(self):
        for u in range(4):
            self.never(4, 4, u, u, [0, 1, 2, 3, 1, 2], [2, 3, 0, 1, 1, 2])
            self.never(4, 4, u, u, RING_OF_FOUR_ALL_ALIKE, [3, 2, 1, 0, 0, 3, 2, 1])


class EverySmallNet(Apart):
    @classmethod
    def setUpClass(cls):
        cls.nets = [(n, net) for n in range(1, 5) for net in different_nets(n)]

    def test_each_two_are_told_apart_from_place_0_and_never_by_the_pebble(self):
        # Of nets that are not the same from place 0 none are left that look the same until the pebble lies somewhere.
        for (n, net), (m, second) in itertools.combinations(self.nets, 2):
            answer = apart(n, m, 0, 0, net, second)
            self.assertEqual(answer[1:], first_word_of_all(n, m, 0, 0, net, second), (n, m, net, second))
            self.assertEqual(answer[0], len(answer) - 1)
            self.assertNotIn(1, answer[1:])

    def test_each_and_itself_named_otherwise(self):
        for n, net in self.nets:
            names = [(place + 1) % n for place in range(n)]
            self.never(n, n, 0, names[0], net, renamed(net, names))

    def test_each_two_places_of_one(self):
        for n, net in self.nets:
            for u, v in itertools.product(range(n), repeat=2):
                word = first_word_of_all(n, n, u, v, net, net) if not namings(n, n, u, v, net, net) else None
                self.assertEqual(apart(n, n, u, v, net, net), [-6] if word is None else [len(word)] + word)


class NetsOfFivePlaces(Apart):
    def test_many_nets_each_with_the_next(self):
        nets = [net for net in lists_of_links(5) if len(places_met(net)) == 5][::7]
        for turn, (net, second) in enumerate(zip(nets, nets[1:] + nets[:1])):
            u = turn % 5
            for v in range(5):
                if namings(5, 5, u, v, net, second):
                    self.never(5, 5, u, v, net, second)
                else:
                    self.told(first_word_of_all(5, 5, u, v, net, second), 5, 5, u, v, net, second)

    def test_in_good_time(self):
        # By itself, so that it can be broken off: going through all words would not end where none tells apart.
        calls = [
            (5, 5, 0, 0, FIVE_ALL_LINKED, FIVE_ALL_LINKED), (5, 5, 3, 3, RING_OF_FIVE, list(RING_OF_FIVE)),
            (5, 5, 0, 0, [0, 1, 1, 2, 3, 4, 2, 3], PATH_OF_FIVE), (5, 4, 0, 0, RING_OF_FIVE, RING_OF_FOUR),
        ]
        lines = f"from withpebble.nets import apart\nprint([apart(*call) for call in {calls}])"
        done = subprocess.run([sys.executable, "-c", lines], capture_output=True, text=True, timeout=60)
        self.assertEqual(done.stdout, "[[-6], [-6], [3, 3, 4, 4], [4, 3, 4, 4, 4]]\n", done.stderr)


class PutDown(Apart):
    """The search on nets of more than 5 places, which apart refuses: only among them the pebble must be put down."""

    def searched_word(self, word, *values):
        self.assertEqual(searched(*values), word)
        self.assertEqual(first_word_of_all(*values), word)

    def test_a_ring_of_three_and_one_of_six(self):
        self.searched_word([1, 3, 4, 4], 3, 6, 0, 0, RING_OF_THREE, RING_OF_SIX)
        self.searched_word([1, 3, 4, 4], 6, 3, 3, 0, RING_OF_SIX, RING_OF_THREE)

    def test_rings_told_so_that_all_places_are_alike(self):
        self.searched_word([1, 3, 4, 3, 4], 4, 6, 0, 0, RING_OF_FOUR_ALL_ALIKE, RING_OF_SIX_ALL_ALIKE)
        self.assertIsNone(searched(6, 6, 0, 3, RING_OF_SIX_ALL_ALIKE, RING_OF_SIX_ALL_ALIKE))
        self.assertIsNone(searched(6, 6, 0, 3, RING_OF_SIX, RING_OF_SIX))


class Refusals(RefusesManyPlaces, unittest.TestCase):
    call = apart

    def test_the_last_place_of_each_is_there(self):
        self.assertEqual(apart(4, 3, 3, 2, RING_OF_FOUR, RING_OF_THREE), [2, 3, 3])
        self.assertEqual(apart(3, 4, 2, 3, RING_OF_THREE, RING_OF_FOUR), [2, 3, 3])

    def test_five_places_are_not_refused(self):
        self.assertEqual(apart(5, 5, 4, 4, RING_OF_FIVE, RING_OF_FIVE), [-6])
        self.assertEqual(apart(5, 1, 4, 0, RING_OF_FIVE, []), [0])


class TheInterface(HoldsForEachCall, unittest.TestCase):
    call = apart
    arguments = ["n", "m", "u", "v", "net", "second"]
    values = [
        (3, 4, 0, 0, RING_OF_THREE, RING_OF_FOUR), (3, 4, 0, 1, PATH_OF_THREE, STAR), (1, 2, 0, 0, [], [0, 1]),
        (5, 5, 1, 1, RING_OF_FIVE, RING_OF_FIVE), (3, 3, 0, 2, PATH_OF_THREE, PATH_OF_THREE),
        (3, 3, 0, 2, PATH_OF_THREE, list(PATH_OF_THREE)), (3, 3, 3, 0, RING_OF_THREE, RING_OF_THREE),
        (3, 2, 0, 0, RING_OF_THREE, [0, 1, 1]), (3, 6, 0, 0, RING_OF_THREE, RING_OF_SIX),
    ]


if __name__ == "__main__":
    unittest.main()
