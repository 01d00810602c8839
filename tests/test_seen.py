"""Tests of withpebble.nets.seen: points 1 and 2 of the document, as far as they speak of it."""

import itertools
import unittest

from tests.helpers import (
    FIVE_ALL_LINKED, GREATEST, PATH_OF_THREE, RING_OF_SIX, RING_OF_SIX_ALL_ALIKE, RING_OF_THREE, STAR, TEN_LINKS,
    HoldsForEachCall, RefusesAWalk, lists_of_links, places_met, seen_by_the_words,
)
from withpebble.nets import seen


class OrdinaryWords(unittest.TestCase):
    def test_round_the_ring_of_three(self):
        self.assertEqual(
            seen(3, 0, RING_OF_THREE, [1, 3, 4, 4, 2]),
            [17, 2, 2, 0, 2, 1, 1, 2, 0, 1, 2, 0, 2, 2, 1, 0, 2, 2],
        )

    def test_the_same_word_on_the_ring_of_six_does_not_come_back(self):
        self.assertEqual(
            seen(6, 0, RING_OF_SIX, [1, 3, 4, 4, 2]),
            [17, 2, 2, 0, 2, 1, 1, 2, 0, 1, 2, 0, 2, 2, 0, 0, 2, 0],
        )

    def test_the_rings_look_the_same_while_the_pebble_is_carried(self):
        word = [3, 4, 4, 0, 3, 3, 4, 4]
        self.assertEqual(seen(3, 0, RING_OF_THREE, word), seen(6, 0, RING_OF_SIX, word))

    def test_round_the_ring_of_six(self):
        self.assertEqual(
            seen(6, 0, RING_OF_SIX, [1, 3, 4, 4, 3, 4, 4]),
            [23, 2, 2, 0, 2, 1, 1, 2, 0, 1, 2, 0, 2, 2, 0, 1, 2, 0, 1, 2, 0, 2, 2, 1],
        )

    def test_a_ring_with_all_places_alike(self):
        for u in range(6):
            self.assertEqual(
                seen(6, u, RING_OF_SIX_ALL_ALIKE, [1, 3, 4, 3, 4, 3, 4]),
                [23, 2, 2, 0, 2, 1, 1, 2, 0, 2, 2, 0, 1, 2, 0, 2, 2, 0, 1, 2, 0, 2, 2, 1],
            )

    def test_from_the_midst_of_a_path(self):
        self.assertEqual(
            seen(3, 1, PATH_OF_THREE, [3, 3, 4, 3]),
            [14, 2, 2, 1, 1, 2, 1, 2, 2, 1, 1, 2, 2, 2, 2],
        )

    def test_a_place_with_one_exit(self):
        self.assertEqual(
            seen(3, 0, PATH_OF_THREE, [1, 3, 4, 3, 3]),
            [17, 1, 2, 0, 1, 1, 1, 2, 0, 1, 1, 0, 2, 2, 0, 1, 1, 1],
        )

    def test_two_places(self):
        self.assertEqual(seen(2, 1, [0, 1], [1, 3, 2]), [11, 1, 2, 0, 1, 1, 1, 1, 0, 0, 1, 0])

    def test_a_star_and_which_exit_one_came_in_by(self):
        self.assertEqual(
            seen(4, 0, STAR, [5, 3, 4, 3, 3, 3]),
            [20, 3, 2, 1, 1, 2, 3, 3, 2, 1, 1, 2, 2, 3, 2, 1, 1, 2, 1, 3, 2],
        )

    def test_both_places_of_a_link_may_be_told_either_way(self):
        word = [1, 3, 4, 4, 2]
        self.assertEqual(seen(3, 0, [1, 0, 2, 1, 0, 2], word), seen(3, 0, RING_OF_THREE, word))

    def test_links_in_another_order_change_the_numbers_of_exits(self):
        word = [4, 3]
        self.assertEqual(seen(3, 0, RING_OF_THREE, word), [8, 2, 2, 2, 2, 2, 2, 2, 2])
        self.assertEqual(seen(3, 0, [2, 0, 0, 1, 1, 2], word), [8, 2, 2, 1, 2, 2, 2, 2, 2])
        self.assertEqual(seen(3, 1, PATH_OF_THREE, [1, 3, 3]), [11, 2, 2, 0, 2, 1, 1, 1, 0, 1, 2, 1])
        self.assertEqual(seen(3, 1, [1, 2, 0, 1], [1, 4, 3]), [11, 2, 2, 0, 2, 1, 1, 1, 0, 2, 2, 1])

    def test_seven_places_and_ten_links(self):
        self.assertEqual(
            seen(7, 0, TEN_LINKS, [7, 5, 3, 1, 4]),
            [17, 5, 2, 3, 3, 2, 5, 5, 2, 1, 2, 2, 0, 2, 1, 1, 3, 0],
        )


class LengthOfWord(unittest.TestCase):
    def test_an_empty_word(self):
        self.assertEqual(seen(3, 2, RING_OF_THREE, []), [2, 2, 2])
        self.assertEqual(seen(3, 0, PATH_OF_THREE, []), [2, 1, 2])

    def test_thirty_letters(self):
        self.assertEqual(seen(2, 0, [0, 1], [3] * 30), [92, 1, 2] + [1, 1, 2] * 30)
        word = [1] + [4] * 28 + [3]
        self.assertEqual(
            seen(3, 0, RING_OF_THREE, word), seen_by_the_words(0, RING_OF_THREE, word)
        )


class OnePlace(unittest.TestCase):
    def test_an_empty_word(self):
        self.assertEqual(seen(1, 0, [], []), [2, 0, 2])

    def test_every_letter(self):
        self.assertEqual(
            seen(1, 0, [], [0, 3, 1, 1, 3, 2, 2, 4]),
            [26, 0, 2, 0, 0, 2, 0, 0, 2, 0, 0, 1, 0, 0, 1, 0, 0, 1, 0, 0, 2, 0, 0, 2, 0, 0, 2],
        )


class Pebble(unittest.TestCase):
    def test_put_down_twice_in_one_place(self):
        self.assertEqual(seen(3, 0, RING_OF_THREE, [1, 1]), [8, 2, 2, 0, 2, 1, 0, 2, 1])

    def test_put_down_again_elsewhere_stays_where_it_lies(self):
        self.assertEqual(
            seen(3, 0, RING_OF_THREE, [1, 3, 1, 3]),
            [14, 2, 2, 0, 2, 1, 1, 2, 0, 0, 2, 0, 1, 2, 1],
        )

    def test_taken_up_where_it_does_not_lie(self):
        self.assertEqual(
            seen(3, 0, RING_OF_THREE, [1, 3, 2, 3]),
            [14, 2, 2, 0, 2, 1, 1, 2, 0, 0, 2, 0, 1, 2, 1],
        )

    def test_taken_up_while_it_is_carried(self):
        self.assertEqual(seen(3, 1, RING_OF_THREE, [2, 2]), [8, 2, 2, 0, 2, 2, 0, 2, 2])

    def test_put_down_left_come_back_to_and_taken_up(self):
        self.assertEqual(
            seen(3, 1, PATH_OF_THREE, [1, 4, 3, 2, 3]),
            [17, 2, 2, 0, 2, 1, 1, 1, 0, 2, 2, 1, 0, 2, 2, 1, 1, 2],
        )

    def test_put_down_in_place_0_too(self):
        self.assertEqual(seen(2, 0, [0, 1], [1, 2, 1]), [11, 1, 2, 0, 1, 1, 0, 1, 2, 0, 1, 1])

    def test_taken_up_and_put_down_elsewhere(self):
        self.assertEqual(
            seen(2, 0, [0, 1], [1, 2, 3, 1, 3, 2, 3, 2]),
            [26, 1, 2, 0, 1, 1, 0, 1, 2, 1, 1, 2, 0, 1, 1, 1, 1, 0, 0, 1, 0, 1, 1, 1, 0, 1, 2],
        )


class AsStaying(unittest.TestCase):
    def test_stay(self):
        self.assertEqual(seen(3, 0, RING_OF_THREE, [0, 1, 0]), [11, 2, 2, 0, 2, 2, 0, 2, 1, 0, 2, 1])

    def test_an_exit_that_is_not_there(self):
        self.assertEqual(seen(3, 0, RING_OF_THREE, [5]), [5, 2, 2, 0, 2, 2])
        self.assertEqual(seen(3, 0, PATH_OF_THREE, [1, 4, 5]), [11, 1, 2, 0, 1, 1, 0, 1, 1, 0, 1, 1])

    def test_one_goes_on_from_where_one_stayed(self):
        self.assertEqual(
            seen(3, 0, PATH_OF_THREE, [4, 3, 5, 4]),
            [14, 1, 2, 0, 1, 2, 1, 2, 2, 0, 2, 2, 1, 1, 2],
        )

    def test_the_greatest_letter(self):
        self.assertEqual(seen(3, 0, RING_OF_THREE, [GREATEST, 1, GREATEST]), [11, 2, 2, 0, 2, 2, 0, 2, 1, 0, 2, 1])
        self.assertEqual(seen(1, 0, [], [GREATEST]), [5, 0, 2, 0, 0, 2])


class Refusals(RefusesAWalk, unittest.TestCase):
    call = seen

    def test_ten_links_are_not_refused(self):
        self.assertEqual(seen(7, 0, TEN_LINKS, []), [2, 5, 2])
        self.assertEqual(seen(5, 0, FIVE_ALL_LINKED, []), [2, 4, 2])

    def test_a_long_path_hangs_together_in_whatever_order(self):
        forth = [0, 1, 1, 2, 2, 3, 3, 4, 4, 5, 5, 6]
        self.assertEqual(seen(7, 0, forth, []), [2, 1, 2])
        self.assertEqual(seen(7, 0, [5, 6, 4, 5, 3, 4, 2, 3, 1, 2, 0, 1], []), [2, 1, 2])
        self.assertEqual(seen(7, 3, [6, 5, 5, 4, 4, 3, 3, 2, 2, 1, 1, 0], []), [2, 2, 2])

    def test_the_last_place_is_there(self):
        self.assertEqual(seen(7, 6, TEN_LINKS, []), [2, 2, 2])


class AgainstTheWords(unittest.TestCase):
    def test_every_net_of_up_to_four_places(self):
        word = [4, 1, 5, 3, 2, 4, 1, 3, 3, 2, 1, 4, 4, 5, 6, 2, 3]
        for n in range(1, 5):
            for net in lists_of_links(n):
                self.compare(n, net, word)

    def compare(self, n, net, word):
        whole = len(places_met(net)) == n
        for u in range(n):
            expected = seen_by_the_words(u, net, word) if whole else [-22]
            self.assertEqual(seen(n, u, net, word), expected, (n, u, net))

    def test_every_short_word(self):
        for net, n in ((PATH_OF_THREE, 3), (STAR, 4), (RING_OF_THREE, 3), (RING_OF_SIX, 6)):
            for length in range(5):
                for word in itertools.product(range(6), repeat=length):
                    self.assertEqual(
                        seen(n, 0, net, list(word)), seen_by_the_words(0, net, word), (net, word)
                    )


class TheInterface(HoldsForEachCall, unittest.TestCase):
    call = seen
    arguments = ["n", "u", "net", "word"]
    values = [
        (3, 0, RING_OF_THREE, [1, 3, 4, 4, 2]), (6, 2, RING_OF_SIX, [1, 3]), (1, 0, [], []), (0, 0, [], []),
        (3, 3, RING_OF_THREE, [1]), (3, 0, [0, 1, 1], [1]), (3, 0, RING_OF_THREE, [0] * 31), (4, 0, [0, 1, 2, 3], [3]),
    ]


if __name__ == "__main__":
    unittest.main()
