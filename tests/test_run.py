"""Tests of withpebble.nets.run: points 1 and 2 of the document, as far as they speak of it."""

import itertools
import unittest

from tests.helpers import (
    GREATEST, PATH_OF_THREE, RING_OF_SIX, RING_OF_SIX_ALL_ALIKE, RING_OF_THREE, STAR, TEN_LINKS, HoldsForEachCall,
    RefusesAWalk, lists_of_links, places_met, run_by_the_words,
)
from withpebble.nets import run, seen


class OrdinaryWords(unittest.TestCase):
    def test_round_the_ring_of_three(self):
        self.assertEqual(run(3, 0, RING_OF_THREE, [3]), [1, 0])
        self.assertEqual(run(3, 0, RING_OF_THREE, [4]), [2, 0])
        self.assertEqual(run(3, 0, RING_OF_THREE, [1, 3, 4]), [2, 1])
        self.assertEqual(run(3, 0, RING_OF_THREE, [1, 3, 4, 4]), [0, 1])
        self.assertEqual(run(3, 0, RING_OF_THREE, [1, 3, 4, 4, 2]), [0, 0])

    def test_the_same_word_on_the_ring_of_six_does_not_come_back(self):
        self.assertEqual(run(6, 0, RING_OF_SIX, [1, 3, 4, 4]), [3, 1])
        self.assertEqual(run(6, 0, RING_OF_SIX, [1, 3, 4, 4, 2]), [3, 1])
        self.assertEqual(run(6, 0, RING_OF_SIX, [1, 3, 4, 4, 3, 4, 4, 2]), [0, 0])

    def test_a_ring_with_all_places_alike(self):
        for u in range(6):
            # From an even place exit 0 leads on, from an odd one back.
            after = u + 1 if u % 2 == 0 else u - 1
            self.assertEqual(run(6, u, RING_OF_SIX_ALL_ALIKE, [1, 3]), [after, u + 1])
            self.assertEqual(run(6, u, RING_OF_SIX_ALL_ALIKE, [1, 3, 4, 3, 4, 3, 4]), [u, u + 1])

    def test_from_the_midst_of_a_path(self):
        self.assertEqual(run(3, 1, PATH_OF_THREE, [3]), [0, 0])
        self.assertEqual(run(3, 1, PATH_OF_THREE, [1, 4]), [2, 2])
        self.assertEqual(run(3, 1, PATH_OF_THREE, [3, 3, 4, 1]), [2, 3])

    def test_a_place_with_one_exit(self):
        self.assertEqual(run(3, 0, PATH_OF_THREE, [1, 4]), [0, 1])
        self.assertEqual(run(3, 0, PATH_OF_THREE, [1, 3, 4, 3, 3]), [0, 1])
        self.assertEqual(run(2, 1, [0, 1], [1, 3]), [0, 2])

    def test_a_star(self):
        self.assertEqual(run(4, 0, STAR, [5]), [3, 0])
        self.assertEqual(run(4, 2, STAR, [3, 1, 4]), [2, 1])
        self.assertEqual(run(4, 3, STAR, [1, 3, 3]), [1, 4])

    def test_both_places_of_a_link_may_be_told_either_way(self):
        for word in ([3], [4], [1, 3, 4, 4, 2], [4, 1, 3]):
            self.assertEqual(run(3, 0, [1, 0, 2, 1, 0, 2], word), run(3, 0, RING_OF_THREE, word))

    def test_links_in_another_order_lead_elsewhere(self):
        self.assertEqual(run(3, 0, RING_OF_THREE, [1, 3]), [1, 1])
        self.assertEqual(run(3, 0, [2, 0, 0, 1, 1, 2], [1, 3]), [2, 1])
        self.assertEqual(run(3, 1, PATH_OF_THREE, [4, 1]), [2, 3])
        self.assertEqual(run(3, 1, [1, 2, 0, 1], [4, 1]), [0, 1])
        self.assertEqual(run(4, 0, STAR, [5, 1, 3]), [0, 4])
        self.assertEqual(run(4, 0, [0, 3, 0, 2, 0, 1], [5, 1, 3]), [0, 2])

    def test_seven_places_and_ten_links(self):
        self.assertEqual(run(7, 0, TEN_LINKS, [7]), [4, 0])
        self.assertEqual(run(7, 0, TEN_LINKS, [7, 5, 3, 1, 4]), [2, 2])
        self.assertEqual(run(7, 6, TEN_LINKS, [1, 4]), [0, 7])


class LengthOfWord(unittest.TestCase):
    def test_an_empty_word(self):
        for u in range(3):
            self.assertEqual(run(3, u, RING_OF_THREE, []), [u, 0])

    def test_thirty_letters(self):
        self.assertEqual(run(2, 0, [0, 1], [3] * 30), [0, 0])
        self.assertEqual(run(2, 0, [0, 1], [1] + [3] * 29), [1, 1])
        self.assertEqual(run(2, 0, [0, 1], [3] * 29 + [1]), [1, 2])


class OnePlace(unittest.TestCase):
    def test_every_letter(self):
        self.assertEqual(run(1, 0, [], []), [0, 0])
        for letter in (0, 2, 3, 4, GREATEST):
            self.assertEqual(run(1, 0, [], [letter]), [0, 0])
            self.assertEqual(run(1, 0, [], [letter, 1]), [0, 1])
        for letter in (0, 1, 3, 4, GREATEST):
            self.assertEqual(run(1, 0, [], [1, letter]), [0, 1])
        self.assertEqual(run(1, 0, [], [1, 2]), [0, 0])


class Pebble(unittest.TestCase):
    def test_never_put_down(self):
        self.assertEqual(run(3, 2, RING_OF_THREE, [3, 3, 0, 4]), [2, 0])
        self.assertEqual(run(6, 5, RING_OF_SIX, [4, 3, 4]), [2, 0])

    def test_put_down_and_left(self):
        self.assertEqual(run(3, 2, RING_OF_THREE, [1, 3]), [1, 3])
        self.assertEqual(run(3, 1, RING_OF_THREE, [1, 4]), [2, 2])

    def test_put_down_in_place_0(self):
        self.assertEqual(run(3, 0, RING_OF_THREE, [1]), [0, 1])
        self.assertEqual(run(3, 1, RING_OF_THREE, [3, 1, 4]), [2, 1])

    def test_put_down_twice_stays_at_the_first(self):
        self.assertEqual(run(3, 0, RING_OF_THREE, [1, 1]), [0, 1])
        self.assertEqual(run(3, 0, RING_OF_THREE, [1, 3, 1]), [1, 1])
        self.assertEqual(run(3, 2, RING_OF_THREE, [1, 4, 1, 3]), [1, 3])

    def test_taken_up_where_it_does_not_lie(self):
        self.assertEqual(run(3, 0, RING_OF_THREE, [1, 3, 2]), [1, 1])
        self.assertEqual(run(3, 2, RING_OF_THREE, [1, 4, 2, 1]), [0, 3])
        self.assertEqual(run(3, 1, PATH_OF_THREE, [1, 3, 2, 3]), [1, 2])

    def test_taken_up_while_it_is_carried(self):
        self.assertEqual(run(3, 1, RING_OF_THREE, [2]), [1, 0])
        self.assertEqual(run(3, 0, RING_OF_THREE, [2, 2, 3]), [1, 0])
        self.assertEqual(run(3, 1, RING_OF_THREE, [2, 1]), [1, 2])

    def test_come_back_to_and_taken_up(self):
        self.assertEqual(run(3, 1, PATH_OF_THREE, [1, 4, 3, 2]), [1, 0])
        self.assertEqual(run(3, 1, PATH_OF_THREE, [1, 4, 3, 2, 3]), [0, 0])

    def test_put_down_again_elsewhere(self):
        self.assertEqual(run(3, 1, PATH_OF_THREE, [1, 4, 3, 2, 3, 1, 3]), [1, 1])
        self.assertEqual(run(2, 0, [0, 1], [1, 2, 3, 1, 3]), [0, 2])
        self.assertEqual(run(2, 0, [0, 1], [1, 2, 3, 1, 3, 2]), [0, 2])


class AsStaying(unittest.TestCase):
    def test_stay(self):
        self.assertEqual(run(3, 2, RING_OF_THREE, [0, 0]), [2, 0])
        self.assertEqual(run(3, 2, RING_OF_THREE, [0, 1, 0]), [2, 3])

    def test_an_exit_that_is_not_there(self):
        self.assertEqual(run(3, 0, RING_OF_THREE, [5]), [0, 0])
        self.assertEqual(run(3, 2, PATH_OF_THREE, [1, 4, 5]), [2, 3])
        self.assertEqual(run(3, 0, PATH_OF_THREE, [4, 3, 5, 4]), [2, 0])

    def test_the_greatest_letter(self):
        self.assertEqual(run(3, 1, RING_OF_THREE, [GREATEST]), [1, 0])
        self.assertEqual(run(3, 1, RING_OF_THREE, [GREATEST, 1, GREATEST, 3, GREATEST]), [0, 2])


class Refusals(RefusesAWalk, unittest.TestCase):
    call = run

    def test_the_greatest_nets_are_not_refused(self):
        self.assertEqual(run(7, 6, TEN_LINKS, []), [6, 0])
        self.assertEqual(run(7, 6, [5, 6, 4, 5, 3, 4, 2, 3, 1, 2, 0, 1], [3, 4, 4, 4, 4, 4]), [0, 0])


class AgainstTheWords(unittest.TestCase):
    def test_every_net_of_up_to_four_places(self):
        word = [4, 1, 5, 3, 2, 4, 1, 3, 3, 2, 1, 4, 4, 5, 6, 2, 3]
        for n in range(1, 5):
            for net in lists_of_links(n):
                whole = len(places_met(net)) == n
                for u in range(n):
                    for length in (0, 4, 9, 17):
                        expected = run_by_the_words(u, net, word[:length]) if whole else [-22]
                        self.assertEqual(run(n, u, net, word[:length]), expected, (n, u, net, length))

    def test_every_short_word(self):
        for n, net in ((3, PATH_OF_THREE), (4, STAR), (3, RING_OF_THREE), (6, RING_OF_SIX)):
            for length in range(5):
                for word in itertools.product(range(6), repeat=length):
                    self.assertEqual(run(n, 0, net, list(word)), run_by_the_words(0, net, word), (net, word))


class AgreesWithSeen(unittest.TestCase):
    def test_what_is_seen_last_holds_in_the_place_told(self):
        for n, net in ((1, []), (2, [0, 1]), (3, PATH_OF_THREE), (4, STAR), (3, RING_OF_THREE), (7, TEN_LINKS)):
            for length in range(5):
                for word in itertools.product(range(6), repeat=length):
                    for u in (0, n - 1):
                        self.compare(n, u, net, list(word))

    def compare(self, n, u, net, word):
        place, pebble = run(n, u, net, word)
        if pebble == 0:
            pebble_seen = 2
        else:
            pebble_seen = int(pebble == place + 1)
        self.assertEqual(seen(n, u, net, word)[-2:], [net.count(place), pebble_seen], (n, u, net, word))


class TheInterface(HoldsForEachCall, unittest.TestCase):
    call = run
    arguments = ["n", "u", "net", "word"]
    values = [
        (3, 0, RING_OF_THREE, [1, 3, 4, 4]), (6, 2, RING_OF_SIX, [1, 3]), (1, 0, [], []), (0, 0, [], []),
        (3, 3, RING_OF_THREE, [1]), (3, 0, [0, 1, 1], [1]), (3, 0, RING_OF_THREE, [0] * 31), (4, 0, [0, 1, 2, 3], [3]),
    ]


if __name__ == "__main__":
    unittest.main()
