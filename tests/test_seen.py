"""Tests of withpebble.nets.seen: points 1 and 2 of the document, as far as they speak of it."""

import contextlib
import inspect
import io
import itertools
import unittest

from withpebble import nets
from withpebble.nets import seen

GREATEST = 4294967295

RING_OF_THREE = [0, 1, 1, 2, 2, 0]
# Told so that it looks like the ring of three, from each place, as long as no pebble is put down.
RING_OF_SIX = [0, 1, 3, 4, 1, 2, 4, 5, 2, 3, 5, 0]
# Told so that all places are alike: exit 0 leads to an exit 0, exit 1 to an exit 1.
RING_OF_SIX_ALL_ALIKE = [0, 1, 2, 3, 4, 5, 1, 2, 3, 4, 5, 0]
PATH_OF_THREE = [0, 1, 1, 2]
STAR = [0, 1, 0, 2, 3, 0]
TEN_LINKS = [0, 1, 1, 2, 2, 3, 3, 4, 4, 5, 5, 6, 6, 0, 0, 2, 0, 3, 0, 4]


class FrozenList(list):
    """A list that tells if somebody tries to change it, be it for a while."""

    def refuse(self, *args, **kwargs):
        raise AssertionError("what is handed in was changed")

    __setitem__ = __delitem__ = __iadd__ = __imul__ = refuse
    append = extend = insert = pop = remove = clear = sort = reverse = refuse


def places_met(net):
    """The places that hang together with place 0, found by a walk of their own."""
    met = {0}
    waiting = [0]
    pairs = [(net[k], net[k + 1]) for k in range(0, len(net), 2)]
    while waiting:
        here = waiting.pop()
        for pair in pairs:
            if here in pair:
                there = pair[0] + pair[1] - here
                if there not in met:
                    met.add(there)
                    waiting.append(there)
    return met


def seen_by_the_words(u, net, word):
    """What the document tells, looked up afresh in net at each step."""
    pairs = list(zip(net[::2], net[1::2]))

    def links_at(place):
        return [k for k, pair in enumerate(pairs) if place in pair]

    def look():
        return [len(links_at(here)), 2 if lies is None else int(lies == here)]

    here = u
    lies = None
    answer = look()
    for letter in word:
        came = 0
        if letter == 1 and lies is None:
            lies = here
        elif letter == 2 and lies == here:
            lies = None
        elif 3 <= letter < 3 + len(links_at(here)):
            link = links_at(here)[letter - 3]
            here = sum(pairs[link]) - here
            came = links_at(here).index(link) + 1
        answer += [came] + look()
    return [len(answer)] + answer


class OrdinaryWords(unittest.TestCase):
    def test_round_the_ring_of_three(self):
        self.assertEqual(
            seen(3, 0, RING_OF_THREE, [1, 3, 4, 4, 2]),
            [17, 2, 2, 0, 2, 1, 1, 2, 0, 1, 2, 0, 2, 2, 1, 0, 2, 2],
        )

    def test_the_same_word_on_the_ring_of_six_does_not_come_back(self):
        self.assertEqual(
            seen(6, 0, RING_OF_SIX, [1, 3, 4, 4, 2]),
            [17, 2, 2, 0, 2, 1, 1, 2, 0, 1, 2, 0, 2, 2, 0, 0, 2, 0],
        )

    def test_the_rings_look_the_same_while_the_pebble_is_carried(self):
        word = [3, 4, 4, 0, 3, 3, 4, 4]
        self.assertEqual(seen(3, 0, RING_OF_THREE, word), seen(6, 0, RING_OF_SIX, word))

    def test_round_the_ring_of_six(self):
        self.assertEqual(
            seen(6, 0, RING_OF_SIX, [1, 3, 4, 4, 3, 4, 4]),
            [23, 2, 2, 0, 2, 1, 1, 2, 0, 1, 2, 0, 2, 2, 0, 1, 2, 0, 1, 2, 0, 2, 2, 1],
        )

    def test_a_ring_with_all_places_alike(self):
        for u in range(6):
            self.assertEqual(
                seen(6, u, RING_OF_SIX_ALL_ALIKE, [1, 3, 4, 3, 4, 3, 4]),
                [23, 2, 2, 0, 2, 1, 1, 2, 0, 2, 2, 0, 1, 2, 0, 2, 2, 0, 1, 2, 0, 2, 2, 1],
            )

    def test_from_the_midst_of_a_path(self):
        self.assertEqual(
            seen(3, 1, PATH_OF_THREE, [3, 3, 4, 3]),
            [14, 2, 2, 1, 1, 2, 1, 2, 2, 1, 1, 2, 2, 2, 2],
        )

    def test_a_place_with_one_exit(self):
        self.assertEqual(
            seen(3, 0, PATH_OF_THREE, [1, 3, 4, 3, 3]),
            [17, 1, 2, 0, 1, 1, 1, 2, 0, 1, 1, 0, 2, 2, 0, 1, 1, 1],
        )

    def test_two_places(self):
        self.assertEqual(seen(2, 1, [0, 1], [1, 3, 2]), [11, 1, 2, 0, 1, 1, 1, 1, 0, 0, 1, 0])

    def test_a_star_and_which_exit_one_came_in_by(self):
        self.assertEqual(
            seen(4, 0, STAR, [5, 3, 4, 3, 3, 3]),
            [20, 3, 2, 1, 1, 2, 3, 3, 2, 1, 1, 2, 2, 3, 2, 1, 1, 2, 1, 3, 2],
        )

    def test_both_places_of_a_link_may_be_told_either_way(self):
        word = [1, 3, 4, 4, 2]
        self.assertEqual(seen(3, 0, [1, 0, 2, 1, 0, 2], word), seen(3, 0, RING_OF_THREE, word))

    def test_links_in_another_order_change_the_numbers_of_exits(self):
        word = [4, 3]
        self.assertEqual(seen(3, 0, RING_OF_THREE, word), [8, 2, 2, 2, 2, 2, 2, 2, 2])
        self.assertEqual(seen(3, 0, [2, 0, 0, 1, 1, 2], word), [8, 2, 2, 1, 2, 2, 2, 2, 2])
        self.assertEqual(seen(3, 1, PATH_OF_THREE, [1, 3, 3]), [11, 2, 2, 0, 2, 1, 1, 1, 0, 1, 2, 1])
        self.assertEqual(seen(3, 1, [1, 2, 0, 1], [1, 4, 3]), [11, 2, 2, 0, 2, 1, 1, 1, 0, 2, 2, 1])

    def test_seven_places_and_ten_links(self):
        self.assertEqual(
            seen(7, 0, TEN_LINKS, [7, 5, 3, 1, 4]),
            [17, 5, 2, 3, 3, 2, 5, 5, 2, 1, 2, 2, 0, 2, 1, 1, 3, 0],
        )


class LengthOfWord(unittest.TestCase):
    def test_an_empty_word(self):
        self.assertEqual(seen(3, 2, RING_OF_THREE, []), [2, 2, 2])
        self.assertEqual(seen(3, 0, PATH_OF_THREE, []), [2, 1, 2])

    def test_thirty_letters(self):
        self.assertEqual(seen(2, 0, [0, 1], [3] * 30), [92, 1, 2] + [1, 1, 2] * 30)
        word = [1] + [4] * 28 + [3]
        self.assertEqual(
            seen(3, 0, RING_OF_THREE, word), seen_by_the_words(0, RING_OF_THREE, word)
        )

    def test_more_than_thirty_letters(self):
        for length in (31, 32):
            self.assertEqual(seen(3, 0, RING_OF_THREE, [0] * length), [-22])
            self.assertEqual(seen(1, 0, [], [3] * length), [-22])


class OnePlace(unittest.TestCase):
    def test_an_empty_word(self):
        self.assertEqual(seen(1, 0, [], []), [2, 0, 2])

    def test_every_letter(self):
        self.assertEqual(
            seen(1, 0, [], [0, 3, 1, 1, 3, 2, 2, 4]),
            [26, 0, 2, 0, 0, 2, 0, 0, 2, 0, 0, 1, 0, 0, 1, 0, 0, 1, 0, 0, 2, 0, 0, 2, 0, 0, 2],
        )


class Pebble(unittest.TestCase):
    def test_put_down_twice_in_one_place(self):
        self.assertEqual(seen(3, 0, RING_OF_THREE, [1, 1]), [8, 2, 2, 0, 2, 1, 0, 2, 1])

    def test_put_down_again_elsewhere_stays_where_it_lies(self):
        self.assertEqual(
            seen(3, 0, RING_OF_THREE, [1, 3, 1, 3]),
            [14, 2, 2, 0, 2, 1, 1, 2, 0, 0, 2, 0, 1, 2, 1],
        )

    def test_taken_up_where_it_does_not_lie(self):
        self.assertEqual(
            seen(3, 0, RING_OF_THREE, [1, 3, 2, 3]),
            [14, 2, 2, 0, 2, 1, 1, 2, 0, 0, 2, 0, 1, 2, 1],
        )

    def test_taken_up_while_it_is_carried(self):
        self.assertEqual(seen(3, 1, RING_OF_THREE, [2, 2]), [8, 2, 2, 0, 2, 2, 0, 2, 2])

    def test_put_down_left_come_back_to_and_taken_up(self):
        self.assertEqual(
            seen(3, 1, PATH_OF_THREE, [1, 4, 3, 2, 3]),
            [17, 2, 2, 0, 2, 1, 1, 1, 0, 2, 2, 1, 0, 2, 2, 1, 1, 2],
        )

    def test_put_down_in_place_0_too(self):
        self.assertEqual(seen(2, 0, [0, 1], [1, 2, 1]), [11, 1, 2, 0, 1, 1, 0, 1, 2, 0, 1, 1])

    def test_taken_up_and_put_down_elsewhere(self):
        self.assertEqual(
            seen(2, 0, [0, 1], [1, 2, 3, 1, 3, 2, 3, 2]),
            [26, 1, 2, 0, 1, 1, 0, 1, 2, 1, 1, 2, 0, 1, 1, 1, 1, 0, 0, 1, 0, 1, 1, 1, 0, 1, 2],
        )


class AsStaying(unittest.TestCase):
    def test_stay(self):
        self.assertEqual(seen(3, 0, RING_OF_THREE, [0, 1, 0]), [11, 2, 2, 0, 2, 2, 0, 2, 1, 0, 2, 1])

    def test_an_exit_that_is_not_there(self):
        self.assertEqual(seen(3, 0, RING_OF_THREE, [5]), [5, 2, 2, 0, 2, 2])
        self.assertEqual(seen(3, 0, PATH_OF_THREE, [1, 4, 5]), [11, 1, 2, 0, 1, 1, 0, 1, 1, 0, 1, 1])

    def test_one_goes_on_from_where_one_stayed(self):
        self.assertEqual(
            seen(3, 0, PATH_OF_THREE, [4, 3, 5, 4]),
            [14, 1, 2, 0, 1, 2, 1, 2, 2, 0, 2, 2, 1, 1, 2],
        )

    def test_the_greatest_letter(self):
        self.assertEqual(seen(3, 0, RING_OF_THREE, [GREATEST, 1, GREATEST]), [11, 2, 2, 0, 2, 2, 0, 2, 1, 0, 2, 1])
        self.assertEqual(seen(1, 0, [], [GREATEST]), [5, 0, 2, 0, 0, 2])


class NotANet(unittest.TestCase):
    def refused(self, n, net):
        self.assertEqual(seen(n, 0, net, [3]), [-22], (n, net))

    def test_the_number_of_places(self):
        self.refused(0, [])
        self.refused(8, [0, 1, 1, 2, 2, 3, 3, 4, 4, 5, 5, 6, 6, 7])
        self.refused(8, [])
        self.refused(GREATEST, [])
        self.refused(GREATEST, RING_OF_THREE)

    def test_an_odd_count_of_numbers(self):
        self.refused(1, [0])
        self.refused(2, [0, 1, 1])
        self.refused(3, [0, 1, 1, 2, 2])
        self.refused(7, TEN_LINKS + [0])

    def test_a_place_that_is_not_there(self):
        self.refused(2, [0, 2])
        self.refused(2, [2, 0])
        self.refused(2, [0, 1, 1, 2])
        self.refused(2, [0, 1, 2, 1])
        self.refused(2, [0, 1, 2, 3])
        self.refused(1, [0, 1])
        self.refused(3, [0, 1, 1, 2, 2, GREATEST])
        self.refused(3, [0, 1, 1, 2, GREATEST, 2])

    def test_a_link_from_a_place_to_itself(self):
        self.refused(1, [0, 0])
        self.refused(2, [0, 1, 1, 1])
        self.refused(3, [2, 2, 0, 1, 1, 2])

    def test_two_links_between_the_same_two_places(self):
        self.refused(2, [0, 1, 0, 1])
        self.refused(2, [0, 1, 1, 0])
        self.refused(3, [0, 1, 1, 2, 0, 1])
        self.refused(3, [0, 1, 1, 2, 1, 0])
        self.refused(3, [2, 1, 0, 1, 1, 2])

    def test_more_than_ten_links(self):
        self.refused(7, TEN_LINKS + [0, 5])
        self.refused(7, TEN_LINKS + [0, 5, 1, 3])

    def test_ten_links_are_not_refused(self):
        self.assertEqual(seen(7, 0, TEN_LINKS, []), [2, 5, 2])
        self.assertEqual(seen(5, 0, [0, 1, 0, 2, 0, 3, 0, 4, 1, 2, 1, 3, 1, 4, 2, 3, 2, 4, 3, 4], []), [2, 4, 2])

    def test_places_that_do_not_hang_together(self):
        self.refused(2, [])
        self.refused(7, [])
        self.refused(3, [0, 1])
        self.refused(3, [1, 2])
        self.refused(4, [0, 1, 2, 3])
        self.refused(6, [0, 1, 1, 2, 2, 0, 3, 4, 4, 5, 5, 3])
        self.refused(7, RING_OF_SIX)

    def test_a_long_path_hangs_together_in_whatever_order(self):
        forth = [0, 1, 1, 2, 2, 3, 3, 4, 4, 5, 5, 6]
        self.assertEqual(seen(7, 0, forth, []), [2, 1, 2])
        self.assertEqual(seen(7, 0, [5, 6, 4, 5, 3, 4, 2, 3, 1, 2, 0, 1], []), [2, 1, 2])
        self.assertEqual(seen(7, 3, [6, 5, 5, 4, 4, 3, 3, 2, 2, 1, 1, 0], []), [2, 2, 2])


class NoPlace(unittest.TestCase):
    def test_one_too_great(self):
        self.assertEqual(seen(3, 3, RING_OF_THREE, [3]), [-2])
        self.assertEqual(seen(1, 1, [], []), [-2])
        self.assertEqual(seen(7, 7, TEN_LINKS, []), [-2])

    def test_the_greatest(self):
        self.assertEqual(seen(3, GREATEST, RING_OF_THREE, [3]), [-2])

    def test_the_last_place_is_there(self):
        self.assertEqual(seen(7, 6, TEN_LINKS, []), [2, 2, 2])


class TheRefusalToldFirst(unittest.TestCase):
    def test_not_a_net_and_no_place(self):
        self.assertEqual(seen(0, 0, [], []), [-22])
        self.assertEqual(seen(3, 3, [0, 1], []), [-22])
        self.assertEqual(seen(2, GREATEST, [0, 1, 1], []), [-22])

    def test_no_place_and_a_word_too_long(self):
        self.assertEqual(seen(3, 3, RING_OF_THREE, [0] * 31), [-2])
        self.assertEqual(seen(1, GREATEST, [], [0] * 32), [-2])

    def test_not_a_net_and_a_word_too_long(self):
        self.assertEqual(seen(2, 0, [0, 0], [0] * 31), [-22])
        self.assertEqual(seen(8, 0, [], [0] * 32), [-22])

    def test_all_of_them(self):
        self.assertEqual(seen(2, 2, [], [0] * 31), [-22])


class AgainstTheWords(unittest.TestCase):
    def test_every_net_of_up_to_four_places(self):
        word = [4, 1, 5, 3, 2, 4, 1, 3, 3, 2, 1, 4, 4, 5, 6, 2, 3]
        for n in range(1, 5):
            pairs = list(itertools.combinations(range(n), 2))
            for count in range(len(pairs) + 1):
                for chosen in itertools.combinations(pairs, count):
                    for turn in range(max(count, 1)):
                        net = [place for pair in chosen[turn:] + chosen[:turn] for place in pair]
                        self.compare(n, net, word)

    def compare(self, n, net, word):
        whole = len(places_met(net)) == n
        for u in range(n):
            expected = seen_by_the_words(u, net, word) if whole else [-22]
            self.assertEqual(seen(n, u, net, word), expected, (n, u, net))

    def test_every_short_word(self):
        for net, n in ((PATH_OF_THREE, 3), (STAR, 4), (RING_OF_THREE, 3), (RING_OF_SIX, 6)):
            for length in range(5):
                for word in itertools.product(range(6), repeat=length):
                    self.assertEqual(
                        seen(n, 0, net, list(word)), seen_by_the_words(0, net, word), (net, word)
                    )


class TheInterface(unittest.TestCase):
    def test_names_of_the_arguments(self):
        self.assertEqual(list(inspect.signature(nets.seen).parameters), ["n", "u", "net", "word"])
        self.assertEqual(nets.seen(n=2, u=1, net=[0, 1], word=[3]), [5, 1, 2, 1, 1, 2])

    def test_a_list_of_whole_numbers(self):
        for answer in (
            seen(3, 0, RING_OF_THREE, [1, 3, 4, 4, 2]), seen(1, 0, [], []), seen(0, 0, [], []),
            seen(1, 1, [], []), seen(1, 0, [], [0] * 31),
        ):
            self.assertIs(type(answer), list)
            self.assertEqual({type(number) for number in answer}, {int})

    def test_what_is_handed_in_is_not_changed(self):
        for n, u, net, word in (
            (3, 0, RING_OF_THREE, [1, 3, 4, 4, 2]), (3, 3, RING_OF_THREE, [1]),
            (3, 0, [0, 1, 1], [1]), (3, 0, RING_OF_THREE, [0] * 31), (4, 0, [0, 1, 2, 3], [3]),
        ):
            frozen_net = FrozenList(net)
            frozen_word = FrozenList(word)
            seen(n, u, frozen_net, frozen_word)
            self.assertEqual(list(frozen_net), net)
            self.assertEqual(list(frozen_word), word)

    def test_nothing_is_kept(self):
        net = list(RING_OF_THREE)
        word = [1, 3, 4, 4, 2]
        first = seen(3, 0, net, word)
        kept = list(first)
        self.assertEqual(seen(3, 0, net, word), kept)
        seen(6, 2, RING_OF_SIX, [1, 3])
        seen(0, 0, [], [])
        first.append(7)
        first[0] = 9
        self.assertEqual(seen(3, 0, net, word), kept)
        self.assertEqual(net, RING_OF_THREE)
        self.assertEqual(word, [1, 3, 4, 4, 2])

    def test_it_prints_nothing(self):
        out = io.StringIO()
        with contextlib.redirect_stdout(out), contextlib.redirect_stderr(out):
            seen(3, 0, RING_OF_THREE, [1, 3, 4, 4, 2])
            seen(0, 0, [], [])
        self.assertEqual(out.getvalue(), "")


if __name__ == "__main__":
    unittest.main()
