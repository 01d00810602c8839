"""What the tests share: nets, wrong nets, the document's words followed afresh, and what holds for each call."""

import contextlib
import inspect
import io
import itertools

GREATEST = 4294967295

RING_OF_THREE = [0, 1, 1, 2, 2, 0]
# Told so that it looks like the ring of three, from each place, as long as no pebble is put down.
RING_OF_SIX = [0, 1, 3, 4, 1, 2, 4, 5, 2, 3, 5, 0]
# Told so that all places are alike: exit 0 leads to an exit 0, exit 1 to an exit 1.
RING_OF_SIX_ALL_ALIKE = [0, 1, 2, 3, 4, 5, 1, 2, 3, 4, 5, 0]
PATH_OF_THREE = [0, 1, 1, 2]
RING_OF_FOUR = [0, 1, 1, 2, 2, 3, 3, 0]
RING_OF_FOUR_ALL_ALIKE = [0, 1, 2, 3, 1, 2, 3, 0]
FOUR_ALL_LINKED_AND_ALIKE = [0, 1, 2, 3, 0, 2, 1, 3, 0, 3, 1, 2]
PATH_OF_FOUR = [0, 1, 1, 2, 2, 3]
RING_OF_FIVE = [0, 1, 1, 2, 2, 3, 3, 4, 4, 0]
PATH_OF_FIVE = [0, 1, 1, 2, 2, 3, 3, 4]
FIVE_ALL_LINKED = [0, 1, 0, 2, 0, 3, 0, 4, 1, 2, 1, 3, 1, 4, 2, 3, 2, 4, 3, 4]
STAR = [0, 1, 0, 2, 3, 0]
# Two nets of six places with nine links, told so that exit e of each place leads to an exit e: without a pebble all
# places of both are alike, but the one net has rings of three and the other has none.
PRISM = [0, 1, 3, 4, 2, 5, 1, 2, 4, 5, 0, 3, 2, 0, 5, 3, 1, 4]
THREE_AND_THREE = [0, 3, 1, 4, 2, 5, 0, 4, 1, 5, 2, 3, 0, 5, 1, 3, 2, 4]
SIX_WITH_TEN_LINKS = [0, 1, 1, 2, 2, 3, 3, 4, 4, 5, 5, 0, 0, 2, 0, 3, 1, 4, 3, 5]
TEN_LINKS = [0, 1, 1, 2, 2, 3, 3, 4, 4, 5, 5, 6, 6, 0, 0, 2, 0, 3, 0, 4]

NOT_NETS = {
    "the number of places": [
        (0, []),
        (8, [0, 1, 1, 2, 2, 3, 3, 4, 4, 5, 5, 6, 6, 7]),
        (8, []),
        (GREATEST, []),
        (GREATEST, RING_OF_THREE),
    ],
    "an odd count of numbers": [
        (1, [0]),
        (2, [0, 1, 1]),
        (3, [0, 1, 1, 2, 2]),
        (7, TEN_LINKS + [0]),
    ],
    "a place that is not there": [
        (2, [0, 2]),
        (2, [2, 0]),
        (2, [0, 1, 1, 2]),
        (2, [0, 1, 2, 1]),
        (2, [0, 1, 2, 3]),
        (1, [0, 1]),
        (3, [0, 1, 1, 2, 2, GREATEST]),
        (3, [0, 1, 1, 2, GREATEST, 2]),
    ],
    "a link from a place to itself": [
        (1, [0, 0]),
        (2, [0, 1, 1, 1]),
        (3, [2, 2, 0, 1, 1, 2]),
    ],
    "two links between the same two places": [
        (2, [0, 1, 0, 1]),
        (2, [0, 1, 1, 0]),
        (3, [0, 1, 1, 2, 0, 1]),
        (3, [0, 1, 1, 2, 1, 0]),
        (3, [2, 1, 0, 1, 1, 2]),
    ],
    "more than ten links": [
        (7, TEN_LINKS + [0, 5]),
        (7, TEN_LINKS + [0, 5, 1, 3]),
    ],
    "places that do not hang together": [
        (2, []),
        (7, []),
        (3, [0, 1]),
        (3, [1, 2]),
        (4, [0, 1, 2, 3]),
        (6, [0, 1, 1, 2, 2, 0, 3, 4, 4, 5, 5, 3]),
        (7, RING_OF_SIX),
    ],
}


def not_nets():
    """Each wrong net with what is wrong with it."""
    return [(why, n, net) for why, cases in NOT_NETS.items() for n, net in cases]


class FrozenList(list):
    """A list that tells if somebody tries to change it, be it for a while."""

    def refuse(self, *args, **kwargs):
        raise AssertionError("what is handed in was changed")

    __setitem__ = __delitem__ = __iadd__ = __imul__ = refuse
    append = extend = insert = pop = remove = clear = sort = reverse = refuse


def frozen(values):
    """The same values, each list a FrozenList; one and the same list stays one and the same."""
    lists = {id(value): FrozenList(value) for value in values if isinstance(value, list)}
    return [lists.get(id(value), value) for value in values]


def places_met(net):
    """The places that hang together with place 0, found by a walk of their own."""
    met = {0}
    waiting = [0]
    pairs = [(net[k], net[k + 1]) for k in range(0, len(net), 2)]
    while waiting:
        here = waiting.pop()
        for pair in pairs:
            if here in pair:
                there = pair[0] + pair[1] - here
                if there not in met:
                    met.add(there)
                    waiting.append(there)
    return met


def exits_by_the_words(n, net):
    """Of each place, exit by exit: the place it leads to, and the exit there by which one comes in."""
    pairs = list(zip(net[::2], net[1::2]))
    links = [[k for k, pair in enumerate(pairs) if place in pair] for place in range(n)]
    ways = []
    for place in range(n):
        there = [sum(pairs[k]) - place for k in links[place]]
        ways.append([(other, links[other].index(k)) for other, k in zip(there, links[place])])
    return ways


def namings(n, m, u, v, net, second):
    """Every naming of the places of net by those of second as the document tells it, by going through all of them."""
    if n != m:
        return []
    one = exits_by_the_words(n, net)
    other = exits_by_the_words(m, second)
    found = []
    for names in itertools.permutations(range(n)):
        named = [[(names[place], into) for place, into in ways] for ways in one]
        if names[u] == v and all(named[place] == other[names[place]] for place in range(n)):
            found.append(list(names))
    return found


def renamed(net, names):
    return [names[place] for place in net]


def different_nets(n):
    """Nets of n places with links in whatever order: one of each sort that is the same from place 0 on."""
    found = {}
    pairs = list(itertools.combinations(range(n), 2))
    for count in range(len(pairs) + 1):
        for chosen in itertools.permutations(pairs, count):
            net = [place for pair in chosen for place in pair]
            if len(places_met(net)) == n:
                found.setdefault(named_as_met(exits_by_the_words(n, net)), net)
    return list(found.values())


def named_as_met(ways):
    """The exits of all places, these named from place 0 on in the order in which one meets them."""
    order = [0]
    for place in order:
        for there, into in ways[place]:
            if there not in order:
                order.append(there)
    return tuple(tuple((order.index(there), into) for there, into in ways[place]) for place in order)


def lists_of_links(n):
    """Every choice of links between n places, each told in several orders; not all of them hang together."""
    pairs = list(itertools.combinations(range(n), 2))
    for count in range(len(pairs) + 1):
        for chosen in itertools.combinations(pairs, count):
            for turn in range(max(count, 1)):
                yield [place for pair in chosen[turn:] + chosen[:turn] for place in pair]


def walk_by_the_words(u, net, word):
    """What the document tells, looked up afresh in net at each step: what is seen, the place, where the pebble lies."""
    pairs = list(zip(net[::2], net[1::2]))

    def links_at(place):
        return [k for k, pair in enumerate(pairs) if place in pair]

    def look():
        return [len(links_at(here)), 2 if lies is None else int(lies == here)]

    here = u
    lies = None
    answer = look()
    for letter in word:
        came = 0
        if letter == 1 and lies is None:
            lies = here
        elif letter == 2 and lies == here:
            lies = None
        elif 3 <= letter < 3 + len(links_at(here)):
            link = links_at(here)[letter - 3]
            here = sum(pairs[link]) - here
            came = links_at(here).index(link) + 1
        answer += [came] + look()
    return answer, here, lies


def seen_by_the_words(u, net, word):
    answer = walk_by_the_words(u, net, word)[0]
    return [len(answer)] + answer


def run_by_the_words(u, net, word):
    here, lies = walk_by_the_words(u, net, word)[1:]
    return [here, 0 if lies is None else lies + 1]


def seen_without_a_pebble(ways, u, word):
    """What the document tells of a word without a pebble; ways are the exits of all places."""
    here = u
    answer = [len(ways[here])]
    for letter in word:
        came = 0
        if 1 <= letter <= len(ways[here]):
            here, into = ways[here][letter - 1]
            came = into + 1
        answer += [came, len(ways[here])]
    return answer


class RefusesAWalk:
    """The refusals of a call with a word; a TestCase beside it names the call."""

    call = None

    def refused(self, number, n, u, net, word):
        self.assertEqual(type(self).call(n, u, net, word), [number], (n, u, net, word))

    def test_what_is_not_a_net(self):
        for why, n, net in not_nets():
            with self.subTest(why, n=n, net=net):
                self.refused(-22, n, 0, net, [3])

    def test_no_place(self):
        self.refused(-2, 3, 3, RING_OF_THREE, [3])
        self.refused(-2, 1, 1, [], [])
        self.refused(-2, 7, 7, TEN_LINKS, [])
        self.refused(-2, 3, GREATEST, RING_OF_THREE, [3])

    def test_more_than_thirty_letters(self):
        for length in (31, 32):
            self.refused(-22, 3, 0, RING_OF_THREE, [0] * length)
            self.refused(-22, 1, 0, [], [3] * length)

    def test_not_a_net_and_no_place(self):
        self.refused(-22, 0, 0, [], [])
        self.refused(-22, 3, 3, [0, 1], [])
        self.refused(-22, 2, GREATEST, [0, 1, 1], [])

    def test_no_place_and_a_word_too_long(self):
        self.refused(-2, 3, 3, RING_OF_THREE, [0] * 31)
        self.refused(-2, 1, GREATEST, [], [0] * 32)

    def test_not_a_net_and_a_word_too_long(self):
        self.refused(-22, 2, 0, [0, 0], [0] * 31)
        self.refused(-22, 8, 0, [], [0] * 32)

    def test_all_of_them(self):
        self.refused(-22, 2, 2, [], [0] * 31)


class RefusesTwoNets:
    """The refusals of a call with two nets; a TestCase beside it names the call."""

    call = None

    def refused(self, number, n, m, u, v, net, second):
        self.assertEqual(type(self).call(n, m, u, v, net, second), [number], (n, m, u, v, net, second))

    def test_what_is_not_a_net(self):
        for why, n, net in not_nets():
            with self.subTest(why, n=n, net=net):
                self.refused(-22, n, 3, 0, 0, net, RING_OF_THREE)
                self.refused(-22, 3, n, 0, 0, RING_OF_THREE, net)
                self.refused(-22, n, n, 0, 0, net, net)

    def test_each_net_is_held_against_its_own_number_of_places(self):
        self.refused(-22, 3, 4, 0, 0, RING_OF_FOUR, RING_OF_THREE)
        self.refused(-22, 4, 3, 0, 0, RING_OF_FOUR, RING_OF_FOUR)
        self.refused(-22, 3, 4, 0, 0, RING_OF_THREE, RING_OF_THREE)

    def test_no_place(self):
        for none in (3, GREATEST):
            self.refused(-2, 3, 3, none, 0, RING_OF_THREE, RING_OF_THREE)
            self.refused(-2, 3, 3, 0, none, RING_OF_THREE, RING_OF_THREE)
            self.refused(-2, 3, 3, none, none, RING_OF_THREE, RING_OF_THREE)
        self.refused(-2, 1, 1, 1, 0, [], [])
        self.refused(-2, 1, 1, 0, 1, [], [])

    def test_a_place_of_the_one_that_is_none_of_the_other(self):
        self.refused(-2, 4, 3, 0, 3, RING_OF_FOUR, RING_OF_THREE)
        self.refused(-2, 3, 4, 3, 0, RING_OF_THREE, RING_OF_FOUR)

    def test_not_a_net_and_no_place(self):
        self.refused(-22, 3, 3, 3, 0, [0, 1], RING_OF_THREE)
        self.refused(-22, 3, 3, 0, 3, [0, 1], RING_OF_THREE)
        self.refused(-22, 3, 3, 3, 0, RING_OF_THREE, [0, 1])
        self.refused(-22, 3, 3, 0, 3, RING_OF_THREE, [0, 1])
        self.refused(-22, 0, 0, 0, 0, [], [])


class RefusesManyPlaces(RefusesTwoNets):
    """The refusals of a call with two nets of at most five places each."""

    def test_more_than_five_places(self):
        self.refused(-75, 3, 6, 0, 0, RING_OF_THREE, RING_OF_SIX)
        self.refused(-75, 6, 3, 0, 0, RING_OF_SIX, RING_OF_THREE)
        self.refused(-75, 6, 6, 0, 0, RING_OF_SIX, RING_OF_SIX)
        self.refused(-75, 6, 6, 5, 5, RING_OF_SIX, RING_OF_SIX_ALL_ALIKE)
        self.refused(-75, 7, 1, 6, 0, TEN_LINKS, [])
        self.refused(-75, 1, 7, 0, 6, [], TEN_LINKS)

    def test_no_place_and_more_than_five_places(self):
        self.refused(-2, 6, 3, 6, 0, RING_OF_SIX, RING_OF_THREE)
        self.refused(-2, 6, 3, 0, 3, RING_OF_SIX, RING_OF_THREE)
        self.refused(-2, 3, 6, 3, 0, RING_OF_THREE, RING_OF_SIX)
        self.refused(-2, 3, 6, 0, 6, RING_OF_THREE, RING_OF_SIX)

    def test_not_a_net_and_more_than_five_places(self):
        self.refused(-22, 7, 3, 0, 0, RING_OF_SIX, RING_OF_THREE)
        self.refused(-22, 6, 3, 0, 0, RING_OF_SIX, [0, 1])
        self.refused(-22, 3, 6, 0, 0, [0, 1], RING_OF_SIX)
        self.refused(-22, 8, 8, 0, 0, [], [])

    def test_all_of_them(self):
        self.refused(-22, 6, 3, 6, 3, RING_OF_SIX, [0, 1])


class HoldsForEachCall:
    """What the interface says of each call; a TestCase beside it names the call, its arguments, and some values."""

    call = None
    arguments = []
    values = []

    def answer(self, values):
        return type(self).call(*values)

    def test_names_of_the_arguments(self):
        self.assertEqual(list(inspect.signature(type(self).call).parameters), self.arguments)
        for values in self.values:
            by_name = dict(zip(self.arguments, values))
            self.assertEqual(type(self).call(**by_name), self.answer(values))

    def test_a_list_of_whole_numbers(self):
        for values in self.values:
            answer = self.answer(values)
            self.assertIs(type(answer), list)
            self.assertEqual({type(number) for number in answer}, {int}, values)
            self.assertTrue(len(answer) == 1 or min(answer) >= 0, values)

    def test_what_is_handed_in_is_not_changed(self):
        for values in self.values:
            handed = frozen(values)
            self.assertEqual(self.answer(handed), self.answer(values))
            self.assertEqual([list(v) if isinstance(v, list) else v for v in handed], list(values))

    def test_nothing_is_kept(self):
        answers = [list(self.answer(values)) for values in self.values]
        for turn in range(2):
            for values, expected in reversed(list(zip(self.values, answers))):
                answer = self.answer(values)
                self.assertEqual(answer, expected)
                # What was given back is the caller's own: a change of it is not met again.
                answer.append(7)
                answer[0] = 9

    def test_it_prints_nothing(self):
        out = io.StringIO()
        with contextlib.redirect_stdout(out), contextlib.redirect_stderr(out):
            for values in self.values:
                self.answer(values)
        self.assertEqual(out.getvalue(), "")
