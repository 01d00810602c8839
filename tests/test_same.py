"""Tests of withpebble.nets.same: points 1 and 3 of the document and what holds by b and c, where they speak of it."""

import itertools
import subprocess
import sys
import unittest

from tests.helpers import (
    FIVE_ALL_LINKED, PATH_OF_FIVE, PATH_OF_FOUR, PATH_OF_THREE, PRISM, RING_OF_FIVE, RING_OF_FOUR,
    RING_OF_FOUR_ALL_ALIKE, RING_OF_SIX, RING_OF_SIX_ALL_ALIKE, RING_OF_THREE, SIX_WITH_TEN_LINKS, STAR, TEN_LINKS,
    THREE_AND_THREE, HoldsForEachCall, RefusesTwoNets, different_nets, exits_by_the_words, lists_of_links, namings,
    places_met, renamed,
)
from withpebble.nets import apart, same

NETS = [
    (1, []), (2, [0, 1]), (3, PATH_OF_THREE), (3, RING_OF_THREE), (4, STAR), (4, RING_OF_FOUR),
    (4, RING_OF_FOUR_ALL_ALIKE), (5, PATH_OF_FIVE), (5, RING_OF_FIVE), (5, FIVE_ALL_LINKED), (6, RING_OF_SIX),
    (6, RING_OF_SIX_ALL_ALIKE), (6, PRISM), (6, THREE_AND_THREE), (6, SIX_WITH_TEN_LINKS), (7, TEN_LINKS),
]


class Same(unittest.TestCase):
    """A TestCase with the checks that the others share."""

    def named(self, names, n, m, u, v, net, second):
        """same answers this naming, and it is one as the document tells it."""
        self.assertEqual(same(n, m, u, v, net, second), [n] + names, (n, m, u, v, net, second))
        self.holds(names, n, m, u, v, net, second)

    def holds(self, names, n, m, u, v, net, second):
        values = (names, n, m, u, v, net, second)
        self.assertEqual(n, m, values)
        self.assertEqual(sorted(names), list(range(n)), values)
        self.assertEqual(names[u], v, values)
        one = exits_by_the_words(n, net)
        other = exits_by_the_words(m, second)
        for place in range(n):
            ways = other[names[place]]
            self.assertEqual(len(one[place]), len(ways), values)
            for number, (there, into) in enumerate(one[place]):
                self.assertEqual((names[there], into), ways[number], values)

    def not_the_same(self, n, m, u, v, net, second):
        """same refuses, and going through all namings tells that there is none."""
        self.assertEqual(same(n, m, u, v, net, second), [-33], (n, m, u, v, net, second))
        self.assertEqual(namings(n, m, u, v, net, second), [])

    def as_by_all_namings(self, n, m, u, v, net, second):
        found = namings(n, m, u, v, net, second)
        if found:
            # There's one such naming at most.
            self.assertEqual(len(found), 1)
            self.named(found[0], n, m, u, v, net, second)
        else:
            self.assertEqual(same(n, m, u, v, net, second), [-33], (n, m, u, v, net, second))


class ANaming(Same):
    def test_a_net_and_itself(self):
        for n, net in NETS:
            for u in range(n):
                self.named(list(range(n)), n, n, u, u, net, net)
                self.named(list(range(n)), n, n, u, u, net, list(net))

    def test_places_named_otherwise(self):
        self.named([2, 0, 1], 3, 3, 0, 2, PATH_OF_THREE, [2, 0, 0, 1])
        self.named([3, 1, 0, 2], 4, 4, 2, 0, STAR, [3, 1, 3, 0, 2, 3])
        self.named([4, 2, 0, 3, 1], 5, 5, 4, 1, PATH_OF_FIVE, [4, 2, 2, 0, 0, 3, 3, 1])

    def test_places_named_in_whatever_way(self):
        for n, net in NETS:
            for turn, names in enumerate(itertools.permutations(range(n))):
                # All namings of the smaller nets from each place, some of the greater ones from one place each.
                if n <= 4:
                    places = range(n)
                else:
                    places = [turn % n] if turn % 11 == 0 else []
                for u in places:
                    self.named(list(names), n, n, u, names[u], net, renamed(net, names))

    def test_one_link_told_the_other_way_round(self):
        for n, net in NETS:
            for k in range(0, len(net), 2):
                turned = net[:k] + [net[k + 1], net[k]] + net[k + 2:]
                for u in range(n):
                    self.named(list(range(n)), n, n, u, u, net, turned)
                    self.named(list(range(n)), n, n, u, u, turned, net)

    def test_all_links_told_the_other_way_round(self):
        self.named([0, 1, 2, 3], 4, 4, 0, 0, STAR, [1, 0, 2, 0, 0, 3])
        self.named([0, 1, 2], 3, 3, 1, 1, RING_OF_THREE, [1, 0, 2, 1, 0, 2])

    def test_the_ring_of_four_all_alike_from_any_two_places(self):
        net = RING_OF_FOUR_ALL_ALIKE
        self.named([1, 0, 3, 2], 4, 4, 0, 1, net, net)
        self.named([2, 3, 0, 1], 4, 4, 0, 2, net, net)
        self.named([3, 2, 1, 0], 4, 4, 0, 3, net, net)
        for u in range(4):
            for v in range(4):
                self.named([place ^ u ^ v for place in range(4)], 4, 4, u, v, net, net)

    def test_the_ring_of_six_all_alike_from_any_two_places(self):
        net = RING_OF_SIX_ALL_ALIKE
        self.named([1, 0, 5, 4, 3, 2], 6, 6, 0, 1, net, net)
        self.named([2, 3, 4, 5, 0, 1], 6, 6, 0, 2, net, net)
        for u in range(6):
            for v in range(6):
                # An even step turns the ring, an odd one turns it over.
                turned = [(place + v - u) % 6 for place in range(6)]
                turned_over = [(u + v - place) % 6 for place in range(6)]
                self.named(turned if (u + v) % 2 == 0 else turned_over, 6, 6, u, v, net, net)

    def test_the_ring_of_six_that_looks_like_one_of_three(self):
        self.named([3, 4, 5, 0, 1, 2], 6, 6, 0, 3, RING_OF_SIX, RING_OF_SIX)
        self.named([3, 4, 5, 0, 1, 2], 6, 6, 4, 1, RING_OF_SIX, RING_OF_SIX)

    def test_one_place(self):
        self.named([0], 1, 1, 0, 0, [], [])

    def test_a_place_with_one_exit_in_both(self):
        self.named([0, 1], 2, 2, 0, 0, [0, 1], [0, 1])
        self.named([1, 0], 2, 2, 0, 1, [0, 1], [0, 1])
        self.named([1, 0], 2, 2, 1, 0, [0, 1], [1, 0])
        self.named([3, 2, 1, 0], 4, 4, 0, 3, [0, 1, 2, 3, 1, 2], [0, 1, 2, 3, 1, 2])
        self.named([0, 2, 1, 3], 4, 4, 1, 2, STAR, [0, 2, 0, 1, 3, 0])


class NotTheSame(Same):
    def test_two_places_that_no_naming_brings_together(self):
        for n, net in ((3, PATH_OF_THREE), (3, RING_OF_THREE), (4, RING_OF_FOUR), (5, RING_OF_FIVE), (4, STAR)):
            for u, v in itertools.permutations(range(n), 2):
                self.not_the_same(n, n, u, v, net, net)

    def test_two_places_that_are_alike_without_a_pebble(self):
        self.not_the_same(6, 6, 0, 1, PRISM, PRISM)
        self.not_the_same(6, 6, 5, 0, PRISM, PRISM)

    def test_a_ring_of_three_and_one_of_six(self):
        for u in range(3):
            for v in range(6):
                self.not_the_same(3, 6, u, v, RING_OF_THREE, RING_OF_SIX)
                self.not_the_same(6, 3, v, u, RING_OF_SIX, RING_OF_THREE)
                self.not_the_same(3, 6, u, v, RING_OF_THREE, RING_OF_SIX_ALL_ALIKE)

    def test_a_ring_of_four_and_one_of_six_all_alike(self):
        for u in range(4):
            for v in range(6):
                self.not_the_same(4, 6, u, v, RING_OF_FOUR_ALL_ALIKE, RING_OF_SIX_ALL_ALIKE)
                self.not_the_same(6, 4, v, u, RING_OF_SIX_ALL_ALIKE, RING_OF_FOUR_ALL_ALIKE)

    def test_as_many_places_and_links_and_all_alike_without_a_pebble(self):
        for u in range(6):
            for v in range(6):
                self.not_the_same(6, 6, u, v, PRISM, THREE_AND_THREE)
                self.not_the_same(6, 6, v, u, THREE_AND_THREE, PRISM)

    def test_different_counts_of_places(self):
        self.not_the_same(3, 4, 0, 0, RING_OF_THREE, RING_OF_FOUR)
        self.not_the_same(3, 4, 0, 0, PATH_OF_THREE, PATH_OF_FOUR)
        self.not_the_same(4, 5, 0, 0, PATH_OF_FOUR, PATH_OF_FIVE)
        # As many links, but not as many places.
        self.not_the_same(4, 3, 0, 0, STAR, RING_OF_THREE)
        self.not_the_same(4, 3, 1, 0, STAR, RING_OF_THREE)

    def test_different_counts_of_links(self):
        self.not_the_same(3, 3, 0, 0, PATH_OF_THREE, RING_OF_THREE)
        self.not_the_same(3, 3, 1, 0, PATH_OF_THREE, RING_OF_THREE)
        self.not_the_same(4, 4, 0, 0, RING_OF_FOUR, RING_OF_FOUR + [0, 2])
        self.not_the_same(4, 4, 1, 1, RING_OF_FOUR, RING_OF_FOUR + [0, 2])
        self.not_the_same(7, 7, 3, 3, TEN_LINKS, TEN_LINKS[:-2])

    def test_the_same_counts_but_other_exits(self):
        self.not_the_same(4, 4, 0, 0, STAR, PATH_OF_FOUR)
        self.not_the_same(4, 4, 1, 0, STAR, PATH_OF_FOUR)
        # The last link's place is another: what is met first looks the same.
        self.not_the_same(5, 5, 0, 0, PATH_OF_FIVE, [0, 1, 1, 2, 2, 3, 2, 4])
        # The counts of exits agree in each place, the numbers of the exits don't.
        self.not_the_same(4, 4, 0, 0, RING_OF_FOUR, RING_OF_FOUR_ALL_ALIKE)
        self.not_the_same(6, 6, 0, 0, RING_OF_SIX, RING_OF_SIX_ALL_ALIKE)

    def test_one_place_and_two(self):
        self.not_the_same(1, 2, 0, 0, [], [0, 1])
        self.not_the_same(2, 1, 1, 0, [0, 1], [])

    def test_a_place_with_one_exit_in_both(self):
        self.not_the_same(2, 3, 0, 0, [0, 1], PATH_OF_THREE)
        self.not_the_same(3, 3, 0, 2, PATH_OF_THREE, PATH_OF_THREE)
        self.not_the_same(4, 4, 1, 3, STAR, STAR)


class LinksInAnotherOrder(Same):
    def test_the_numbers_of_exits_change(self):
        self.not_the_same(3, 3, 0, 0, PATH_OF_THREE, [1, 2, 0, 1])
        self.not_the_same(3, 3, 0, 0, RING_OF_THREE, [1, 2, 0, 1, 2, 0])
        self.not_the_same(4, 4, 1, 1, STAR, [0, 2, 0, 1, 3, 0])

    def test_the_numbers_of_exits_change_but_elsewhere_it_is_the_same(self):
        self.named([2, 1, 0], 3, 3, 0, 2, PATH_OF_THREE, [1, 2, 0, 1])
        self.named([1, 2, 0], 3, 3, 0, 1, RING_OF_THREE, [1, 2, 2, 0, 0, 1])
        self.named([0, 2, 1, 3], 4, 4, 0, 0, STAR, [0, 2, 0, 1, 3, 0])

    def test_the_numbers_of_exits_stay(self):
        self.named([0, 1, 2, 3], 4, 4, 2, 2, [0, 1, 2, 3, 1, 2], [2, 3, 0, 1, 1, 2])
        self.named([0, 1, 2, 3], 4, 4, 1, 1, RING_OF_FOUR_ALL_ALIKE, [3, 2, 1, 0, 0, 3, 2, 1])

    def test_every_order(self):
        for n, net in ((3, PATH_OF_THREE), (3, RING_OF_THREE), (4, STAR), (4, RING_OF_FOUR), (5, PATH_OF_FIVE)):
            links = list(zip(net[::2], net[1::2]))
            for order in itertools.permutations(links):
                second = [place for link in order for place in link]
                for u, v in itertools.product(range(n), repeat=2):
                    self.as_by_all_namings(n, n, u, v, net, second)


class SmallNets(Same):
    """Each net is one of its sort from place 0 on, so the pairs from place 0 stand for those from all places."""

    @classmethod
    def setUpClass(cls):
        cls.nets = [(n, net) for n in range(1, 5) for net in different_nets(n)]

    def agrees_with_apart(self, n, m, u, v, net, second):
        never = apart(n, m, u, v, net, second) == [-6]
        self.assertEqual(same(n, m, u, v, net, second) != [-33], never, (n, m, u, v, net, second))

    def test_no_two_sorts_are_the_same_and_apart_agrees(self):
        for (n, net), (m, second) in itertools.permutations(self.nets, 2):
            self.assertEqual(same(n, m, 0, 0, net, second), [-33], (n, m, net, second))
        for (n, net), (m, second) in itertools.combinations(self.nets, 2):
            self.agrees_with_apart(n, m, 0, 0, net, second)

    def test_each_and_itself_named_otherwise(self):
        for n, net in self.nets:
            names = [(place + 1) % n for place in range(n)]
            self.named(names, n, n, 0, names[0], net, renamed(net, names))
            self.agrees_with_apart(n, n, 0, names[0], net, renamed(net, names))

    def test_each_two_places_of_one(self):
        for n, net in self.nets:
            for u, v in itertools.product(range(n), repeat=2):
                self.as_by_all_namings(n, n, u, v, net, net)
                self.agrees_with_apart(n, n, u, v, net, net)

    def test_nets_of_five_places_each_with_the_next(self):
        nets = [net for net in lists_of_links(5) if len(places_met(net)) == 5][::7]
        for turn, (net, second) in enumerate(zip(nets, nets[1:] + nets[:1])):
            u = turn % 5
            for v in range(5):
                for other in (net, second):
                    self.as_by_all_namings(5, 5, u, v, net, other)
                    self.agrees_with_apart(5, 5, u, v, net, other)


class SixAndSevenPlaces(Same):
    def test_ten_links_named_otherwise(self):
        self.named(
            [5, 3, 1, 0, 2, 4], 6, 6, 0, 5, SIX_WITH_TEN_LINKS,
            [5, 3, 3, 1, 1, 0, 0, 2, 2, 4, 4, 5, 5, 1, 5, 0, 3, 2, 0, 4],
        )
        self.named(
            [6, 4, 2, 0, 1, 3, 5], 7, 7, 3, 0, TEN_LINKS,
            [6, 4, 4, 2, 2, 0, 0, 1, 1, 3, 3, 5, 5, 6, 6, 2, 6, 0, 6, 1],
        )

    def test_ten_links_that_are_not_the_same(self):
        for n, net in ((6, SIX_WITH_TEN_LINKS), (7, TEN_LINKS)):
            for u, v in itertools.permutations(range(n), 2):
                self.as_by_all_namings(n, n, u, v, net, net)
            # The first two links, which share place 1, change their turns.
            turned = net[2:4] + net[:2] + net[4:]
            for u in range(n):
                self.not_the_same(n, n, u, u, net, turned)
        self.not_the_same(6, 7, 0, 0, SIX_WITH_TEN_LINKS, TEN_LINKS)
        self.not_the_same(7, 6, 0, 0, TEN_LINKS, SIX_WITH_TEN_LINKS)

    def test_in_good_time(self):
        # By itself, so that it can be broken off.
        calls = [
            (7, 7, 6, 6, TEN_LINKS, TEN_LINKS), (7, 7, 0, 1, TEN_LINKS, TEN_LINKS),
            (6, 6, 0, 0, PRISM, THREE_AND_THREE), (6, 6, 2, 2, SIX_WITH_TEN_LINKS, SIX_WITH_TEN_LINKS),
        ]
        lines = f"from withpebble.nets import same\nprint([same(*call) for call in {calls}])"
        done = subprocess.run([sys.executable, "-c", lines], capture_output=True, text=True, timeout=60)
        expected = [[7, 0, 1, 2, 3, 4, 5, 6], [-33], [-33], [6, 0, 1, 2, 3, 4, 5]]
        self.assertEqual(done.stdout, f"{expected}\n", done.stderr)


class Refusals(RefusesTwoNets, unittest.TestCase):
    call = same

    def test_the_greatest_nets_are_not_refused(self):
        self.assertEqual(same(7, 7, 6, 6, TEN_LINKS, TEN_LINKS), [7, 0, 1, 2, 3, 4, 5, 6])
        self.assertEqual(same(7, 1, 6, 0, TEN_LINKS, []), [-33])
        self.assertEqual(same(1, 7, 0, 6, [], TEN_LINKS), [-33])
        self.assertEqual(same(3, 6, 0, 5, RING_OF_THREE, RING_OF_SIX), [-33])

    def test_no_place_and_nets_that_are_not_the_same(self):
        self.refused(-2, 3, 3, 0, 3, PATH_OF_THREE, RING_OF_THREE)
        self.refused(-2, 3, 3, 3, 0, PATH_OF_THREE, RING_OF_THREE)
        self.refused(-2, 7, 6, 0, 6, TEN_LINKS, RING_OF_SIX)
        self.refused(-2, 6, 7, 6, 0, RING_OF_SIX, TEN_LINKS)

    def test_not_a_net_and_nets_that_are_not_the_same(self):
        self.refused(-22, 3, 4, 0, 0, RING_OF_THREE, [0, 1, 2, 3])
        self.refused(-22, 2, 3, 0, 0, [], RING_OF_THREE)

    def test_all_of_them(self):
        self.refused(-22, 6, 3, 6, 3, RING_OF_SIX, [0, 1])


class TheInterface(HoldsForEachCall, unittest.TestCase):
    call = same
    arguments = ["n", "m", "u", "v", "net", "second"]
    values = [
        (4, 4, 0, 2, RING_OF_FOUR_ALL_ALIKE, RING_OF_FOUR_ALL_ALIKE), (3, 3, 0, 2, PATH_OF_THREE, [2, 1, 1, 0]),
        (7, 7, 5, 5, TEN_LINKS, list(TEN_LINKS)), (1, 1, 0, 0, [], []), (1, 2, 0, 0, [], [0, 1]),
        (3, 6, 0, 0, RING_OF_THREE, RING_OF_SIX), (6, 6, 0, 0, PRISM, THREE_AND_THREE),
        (3, 3, 3, 0, RING_OF_THREE, RING_OF_THREE), (3, 2, 0, 0, RING_OF_THREE, [0, 1, 1]),
    ]


if __name__ == "__main__":
    unittest.main()
