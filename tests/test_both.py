"""Tests of withpebble.nets.both: points 1 and 3 of the document where they speak of it, and what holds by b and c."""

import functools
import itertools
import subprocess
import sys
import unittest

from tests.helpers import (
    FIVE_ALL_LINKED, FOUR_ALL_LINKED_AND_ALIKE, PATH_OF_FIVE, PATH_OF_FOUR, PATH_OF_THREE, PRISM, RING_OF_FIVE,
    RING_OF_FOUR, RING_OF_FOUR_ALL_ALIKE, RING_OF_SIX, RING_OF_SIX_ALL_ALIKE, RING_OF_THREE, STAR, TEN_LINKS,
    THREE_AND_THREE, HoldsForEachCall, RefusesManyPlaces, different_nets, exits_by_the_words, lists_of_links, namings,
    places_met, renamed, seen_without_a_pebble,
)
from withpebble.nets import apart, both, exits_of_places, links_of, same, seen, three_answers

NETS = [
    (1, []), (2, [0, 1]), (3, PATH_OF_THREE), (3, RING_OF_THREE), (4, STAR), (4, RING_OF_FOUR),
    (4, RING_OF_FOUR_ALL_ALIKE), (4, FOUR_ALL_LINKED_AND_ALIKE), (5, PATH_OF_FIVE), (5, RING_OF_FIVE),
    (5, FIVE_ALL_LINKED),
]


def letters_enough(n, m):
    """How many letters tell apart without a pebble what can be told apart so at all.

    With each letter more the places of both nets, sorted by what is seen, fall into more sorts, or never again; and
    there are n + m sorts at most.
    """
    return n + m - 1


def word_without_a_pebble(n, m, u, v, net, second):
    """A shortest word that tells apart without a pebble, by going through all words; None if none does."""
    one = exits_by_the_words(n, net)
    other = exits_by_the_words(m, second)
    letters = range(1 + max(len(ways) for ways in one + other))
    for length in range(letters_enough(n, m) + 1):
        for word in itertools.product(letters, repeat=length):
            if seen_without_a_pebble(one, u, word) != seen_without_a_pebble(other, v, word):
                return list(word)
    return None


def told_apart_in_steps(n, m, u, v, net, second):
    """Whether by so many letters that they are enough something else is seen without a pebble, step by step."""
    one = exits_by_the_words(n, net)
    other = exits_by_the_words(m, second)

    @functools.lru_cache(maxsize=None)
    def told_apart(here, there, steps):
        if len(one[here]) != len(other[there]):
            return True
        if steps == 0:
            return False
        for (after, into), (after_there, into_there) in zip(one[here], other[there]):
            if into != into_there or told_apart(after, after_there, steps - 1):
                return True
        return False

    return told_apart(u, v, letters_enough(n, m))


def with_a_pebble(word):
    """The same going and staying, by the letters that there are with a pebble."""
    return [letter + 2 if letter > 0 else 0 for letter in word]


def three(n, m, u, v, net, second):
    """What both answers, also for nets that it refuses for their many places."""
    return three_answers(exits_of_places(n, links_of(net)), exits_of_places(m, links_of(second)), u, v)


class Both(unittest.TestCase):
    """A TestCase with the checks that the others share."""

    def answers(self, answer, n, m, u, v, net, second):
        self.assertEqual(both(n, m, u, v, net, second), answer, (n, m, u, v, net, second))

    def holds(self, n, m, u, v, net, second):
        """Each number is as told by other means, and what holds by b and c."""
        values = (n, m, u, v, net, second)
        answer = both(*values)
        self.assertEqual(answer[0], int(not told_apart_in_steps(*values)), values)
        self.assertEqual(answer[1], int(apart(*values) == [-6]), values)
        self.assertEqual(answer[2], int(same(*values) != [-33]), values)
        self.assertEqual(answer[1], answer[2], values)
        self.assertFalse(answer[0] == 0 and answer[1] == 1, values)
        self.assertEqual(len(answer), 3, values)

    def by_all_words(self, n, m, u, v, net, second):
        """The first number by going through words; and what can be told apart without can be with a pebble."""
        values = (n, m, u, v, net, second)
        word = word_without_a_pebble(*values)
        self.assertEqual(both(*values)[0], int(word is None), values)
        if word is not None:
            spelled = with_a_pebble(word)
            self.assertNotEqual(seen(n, u, net, spelled), seen(m, v, second, spelled), values)
            self.assertLessEqual(apart(*values)[0], len(word), values)


class AlikeAndTheSame(Both):
    def test_a_net_and_itself(self):
        for n, net in NETS:
            for u in range(n):
                self.answers([1, 1, 1], n, n, u, u, net, net)
                self.answers([1, 1, 1], n, n, u, u, net, list(net))

    def test_places_named_otherwise(self):
        for n, net in NETS:
            for names in itertools.permutations(range(n)):
                for u in range(n):
                    self.answers([1, 1, 1], n, n, u, names[u], net, renamed(net, names))

    def test_links_told_the_other_way_round(self):
        for n, net in NETS:
            turned = [place for k in range(0, len(net), 2) for place in (net[k + 1], net[k])]
            for u in range(n):
                self.answers([1, 1, 1], n, n, u, u, net, turned)

    def test_nets_told_so_that_all_places_are_alike(self):
        for net in (RING_OF_FOUR_ALL_ALIKE, FOUR_ALL_LINKED_AND_ALIKE):
            for u in range(4):
                for v in range(4):
                    self.answers([1, 1, 1], 4, 4, u, v, net, net)

    def test_one_place(self):
        self.answers([1, 1, 1], 1, 1, 0, 0, [], [])

    def test_a_place_with_one_exit_in_both(self):
        for u in range(2):
            for v in range(2):
                self.answers([1, 1, 1], 2, 2, u, v, [0, 1], [1, 0])
        self.answers([1, 1, 1], 4, 4, 0, 3, [0, 1, 2, 3, 1, 2], [0, 1, 2, 3, 1, 2])


class NeitherOfThem(Both):
    def test_different_counts_of_exits(self):
        self.answers([0, 0, 0], 3, 3, 0, 1, PATH_OF_THREE, PATH_OF_THREE)
        self.answers([0, 0, 0], 3, 3, 1, 0, PATH_OF_THREE, PATH_OF_THREE)
        self.answers([0, 0, 0], 4, 4, 0, 2, STAR, STAR)
        self.answers([0, 0, 0], 4, 5, 0, 0, STAR, FIVE_ALL_LINKED)

    def test_two_places_that_no_naming_brings_together(self):
        for n, net in ((3, RING_OF_THREE), (4, RING_OF_FOUR), (5, RING_OF_FIVE), (4, STAR), (5, FIVE_ALL_LINKED)):
            for u, v in itertools.permutations(range(n), 2):
                self.answers([0, 0, 0], n, n, u, v, net, net)

    def test_rings(self):
        rings = [(3, RING_OF_THREE), (4, RING_OF_FOUR), (4, RING_OF_FOUR_ALL_ALIKE), (5, RING_OF_FIVE)]
        for (n, net), (m, second) in itertools.permutations(rings, 2):
            for u in range(n):
                for v in range(m):
                    self.answers([0, 0, 0], n, m, u, v, net, second)

    def test_only_the_exit_by_which_one_comes_in_differs(self):
        # All places of both have two exits.
        self.answers([0, 0, 0], 4, 4, 0, 0, RING_OF_FOUR, RING_OF_FOUR_ALL_ALIKE)
        self.answers([0, 0, 0], 3, 3, 0, 1, RING_OF_THREE, RING_OF_THREE)

    def test_only_what_comes_later_differs(self):
        self.answers([0, 0, 0], 5, 5, 0, 0, [0, 1, 1, 2, 3, 4, 2, 3], PATH_OF_FIVE)
        self.answers([0, 0, 0], 5, 4, 0, 0, [1, 2, 2, 4, 3, 4, 1, 3, 0, 1], [1, 2, 2, 3, 1, 3, 0, 1])

    def test_one_place_and_two(self):
        self.answers([0, 0, 0], 1, 2, 0, 0, [], [0, 1])
        self.answers([0, 0, 0], 2, 1, 1, 0, [0, 1], [])

    def test_a_place_with_one_exit_in_both(self):
        self.answers([0, 0, 0], 2, 3, 0, 0, [0, 1], PATH_OF_THREE)
        self.answers([0, 0, 0], 3, 3, 0, 2, PATH_OF_THREE, PATH_OF_THREE)
        self.answers([0, 0, 0], 4, 4, 1, 3, STAR, STAR)


class LinksInAnotherOrder(Both):
    def test_the_numbers_of_exits_change(self):
        self.answers([0, 0, 0], 3, 3, 0, 0, PATH_OF_THREE, [1, 2, 0, 1])
        self.answers([0, 0, 0], 3, 3, 0, 0, RING_OF_THREE, [1, 2, 0, 1, 2, 0])
        self.answers([0, 0, 0], 4, 4, 1, 1, STAR, [0, 2, 0, 1, 3, 0])

    def test_the_numbers_of_exits_change_but_elsewhere_it_is_the_same(self):
        self.answers([1, 1, 1], 3, 3, 0, 2, PATH_OF_THREE, [1, 2, 0, 1])
        self.answers([1, 1, 1], 3, 3, 0, 1, RING_OF_THREE, [1, 2, 2, 0, 0, 1])
        self.answers([1, 1, 1], 4, 4, 0, 0, STAR, [0, 2, 0, 1, 3, 0])

    def test_the_numbers_of_exits_stay(self):
        for u in range(4):
            self.answers([1, 1, 1], 4, 4, u, u, [0, 1, 2, 3, 1, 2], [2, 3, 0, 1, 1, 2])
            self.answers([1, 1, 1], 4, 4, u, u, RING_OF_FOUR_ALL_ALIKE, [3, 2, 1, 0, 0, 3, 2, 1])


class AgainstAllWords(Both):
    def test_every_net_of_up_to_three_places(self):
        nets = [(n, net) for n in range(1, 4) for net in different_nets(n)]
        for (n, net), (m, second) in itertools.product(nets, repeat=2):
            for u, v in itertools.product(range(n), range(m)):
                self.by_all_words(n, m, u, v, net, second)

    def test_nets_of_four_places(self):
        for net in (PATH_OF_FOUR, [0, 1, 2, 3, 1, 2], RING_OF_FOUR, RING_OF_FOUR_ALL_ALIKE):
            for u, v in itertools.product(range(4), repeat=2):
                self.by_all_words(4, 4, u, v, net, net)
        self.by_all_words(4, 4, 0, 0, STAR, [0, 2, 0, 1, 3, 0])

    def test_nets_that_are_told_apart(self):
        nets = [(n, net) for n in range(2, 5) for net in different_nets(n)]
        for (n, net), (m, second) in itertools.combinations(nets, 2):
            self.by_all_words(n, m, 0, 0, net, second)


class SmallNets(Both):
    """Each net is one of its sort from place 0 on, so the pairs from place 0 stand for those from all places."""

    @classmethod
    def setUpClass(cls):
        cls.nets = [(n, net) for n in range(1, 5) for net in different_nets(n)]

    def test_each_two_sorts(self):
        for (n, net), (m, second) in itertools.combinations(self.nets, 2):
            self.holds(n, m, 0, 0, net, second)
            self.answers([0, 0, 0], n, m, 0, 0, net, second)

    def test_each_and_itself_named_otherwise(self):
        for n, net in self.nets:
            names = [(place + 1) % n for place in range(n)]
            self.holds(n, n, 0, names[0], net, renamed(net, names))
            self.answers([1, 1, 1], n, n, 0, names[0], net, renamed(net, names))

    def test_each_two_places_of_one(self):
        for n, net in self.nets:
            for u, v in itertools.product(range(n), repeat=2):
                self.holds(n, n, u, v, net, net)

    def test_nets_of_five_places_each_with_the_next(self):
        nets = [net for net in lists_of_links(5) if len(places_met(net)) == 5][::7]
        for turn, (net, second) in enumerate(zip(nets, nets[1:] + nets[:1])):
            u = turn % 5
            for v in range(5):
                for other in (net, second):
                    self.holds(5, 5, u, v, net, other)
                    self.assertEqual(both(5, 5, u, v, net, other)[2], len(namings(5, 5, u, v, net, other)))


class OnlyAPebbleTellsApart(unittest.TestCase):
    """The three answers on nets of more than 5 places, which both refuses: only among them they differ."""

    def test_a_ring_of_three_and_one_of_six(self):
        for u in range(3):
            for v in range(6):
                answer = [1, 0, 0] if u == v % 3 else [0, 0, 0]
                self.assertEqual(three(3, 6, u, v, RING_OF_THREE, RING_OF_SIX), answer)
                self.assertEqual(three(6, 3, v, u, RING_OF_SIX, RING_OF_THREE), answer)

    def test_rings_told_so_that_all_places_are_alike(self):
        for u in range(4):
            for v in range(6):
                self.assertEqual(three(4, 6, u, v, RING_OF_FOUR_ALL_ALIKE, RING_OF_SIX_ALL_ALIKE), [1, 0, 0])
        for u in range(6):
            for v in range(6):
                self.assertEqual(three(6, 6, u, v, RING_OF_SIX_ALL_ALIKE, RING_OF_SIX_ALL_ALIKE), [1, 1, 1])

    def test_as_many_places_and_links(self):
        for u in range(6):
            for v in range(6):
                self.assertEqual(three(6, 6, u, v, PRISM, THREE_AND_THREE), [1, 0, 0])
                found = len(namings(6, 6, u, v, PRISM, PRISM))
                self.assertEqual(three(6, 6, u, v, PRISM, PRISM), [1, found, found])
        self.assertEqual(three(6, 6, 0, 1, PRISM, PRISM), [1, 0, 0])


class InGoodTime(unittest.TestCase):
    def test_five_places_and_ten_links(self):
        # By itself, so that it can be broken off: going through all words would not end where none tells apart.
        other = [3, 4] + FIVE_ALL_LINKED[:-2]
        calls = [
            (5, 5, 0, 0, FIVE_ALL_LINKED, FIVE_ALL_LINKED), (5, 5, 0, 1, FIVE_ALL_LINKED, FIVE_ALL_LINKED),
            (5, 5, 4, 4, FIVE_ALL_LINKED, other), (5, 5, 0, 0, RING_OF_FIVE, FIVE_ALL_LINKED),
        ]
        lines = f"from withpebble.nets import both\nprint([both(*call) for call in {calls}])"
        done = subprocess.run([sys.executable, "-c", lines], capture_output=True, text=True, timeout=60)
        self.assertEqual(done.stdout, "[[1, 1, 1], [0, 0, 0], [0, 0, 0], [0, 0, 0]]\n", done.stderr)


class Refusals(RefusesManyPlaces, unittest.TestCase):
    call = both

    def test_five_places_are_not_refused(self):
        self.assertEqual(both(5, 5, 4, 4, RING_OF_FIVE, RING_OF_FIVE), [1, 1, 1])
        self.assertEqual(both(5, 1, 4, 0, RING_OF_FIVE, []), [0, 0, 0])
        self.assertEqual(both(1, 5, 0, 4, [], RING_OF_FIVE), [0, 0, 0])

    def test_the_last_place_of_each_is_there(self):
        self.assertEqual(both(4, 3, 3, 2, RING_OF_FOUR, RING_OF_THREE), [0, 0, 0])
        self.assertEqual(both(3, 4, 2, 3, RING_OF_THREE, RING_OF_FOUR), [0, 0, 0])

    def test_nets_of_more_than_five_places_that_are_the_same(self):
        self.refused(-75, 6, 6, 0, 1, RING_OF_SIX_ALL_ALIKE, RING_OF_SIX_ALL_ALIKE)
        self.refused(-75, 7, 7, 0, 0, TEN_LINKS, TEN_LINKS)


class TheInterface(HoldsForEachCall, unittest.TestCase):
    call = both
    arguments = ["n", "m", "u", "v", "net", "second"]
    values = [
        (4, 4, 0, 2, RING_OF_FOUR_ALL_ALIKE, RING_OF_FOUR_ALL_ALIKE), (3, 4, 0, 0, RING_OF_THREE, RING_OF_FOUR),
        (5, 5, 1, 1, RING_OF_FIVE, list(RING_OF_FIVE)), (1, 1, 0, 0, [], []), (1, 2, 0, 0, [], [0, 1]),
        (3, 3, 0, 2, PATH_OF_THREE, PATH_OF_THREE), (3, 3, 3, 0, RING_OF_THREE, RING_OF_THREE),
        (3, 2, 0, 0, RING_OF_THREE, [0, 1, 1]), (3, 6, 0, 0, RING_OF_THREE, RING_OF_SIX),
    ]


if __name__ == "__main__":
    unittest.main()
