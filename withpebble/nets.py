"""Nets of places: what is seen on them by a word, with a pebble, which word tells two apart, if they are the same."""

NOT_A_NET = -22
NO_PLACE = -2
WORD_TOO_LONG = -22
TOO_MANY_PLACES = -75
NEVER_APART = -6
NOT_THE_SAME = -33
NOT_REFUSED = 0

MOST_PLACES = 7
MOST_PLACES_TO_TELL_APART = 5
MOST_LINKS = 10
MOST_LETTERS = 30

PUT_DOWN = 1
TAKE_UP = 2
FIRST_EXIT = 3

# Where the pebble is: this, or one more than the place where it lies.
CARRIED = 0

# What is seen between two places: this, or one more than the exit by which one came in.
DID_NOT_GO = 0


def seen(n, u, net, word):
    """How many numbers are seen by word, from u on, with a pebble; then these. Or a refusal alone."""
    refused = refusal(n, u, net, word)
    if refused != NOT_REFUSED:
        return [refused]
    exits = exits_of_places(n, links_of(net))
    told = seen_at(exits, u, CARRIED)
    for place, pebble, came_in in steps_by(exits, u, word)[1:]:
        told.append(came_in)
        told.extend(seen_at(exits, place, pebble))
    return [len(told)] + told


def run(n, u, net, word):
    """The place where one is behind word, from u on; then where the pebble is. Or a refusal alone."""
    refused = refusal(n, u, net, word)
    if refused != NOT_REFUSED:
        return [refused]
    last = steps_by(exits_of_places(n, links_of(net)), u, word)[-1]
    return [last[0], last[1]]


def apart(n, m, u, v, net, second):
    """How many letters the shortest word has that tells u and v apart, with a pebble; then it. Or a refusal alone."""
    refused = refusal_to_tell_apart(n, m, u, v, net, second)
    if refused != NOT_REFUSED:
        return [refused]
    exits = exits_of_places(n, links_of(net))
    exits_of_second = exits_of_places(m, links_of(second))
    word = shortest_word_apart(exits, exits_of_second, u, v)
    if word is None:
        return [NEVER_APART]
    return [len(word)] + word


def same(n, m, u, v, net, second):
    """n; then of each place of net the one of second that it is named by, u by v. Or a refusal alone."""
    refused = refusal_of_two(n, m, u, v, net, second)
    if refused != NOT_REFUSED:
        return [refused]
    exits = exits_of_places(n, links_of(net))
    exits_of_second = exits_of_places(m, links_of(second))
    names = naming(exits, exits_of_second, u, v)
    if names is None:
        return [NOT_THE_SAME]
    return [n] + names


def both(n, m, u, v, net, second):
    """1 or 0 each: if they're alike without a pebble, never told apart with one, the same. Or a refusal alone."""
    refused = refusal_to_tell_apart(n, m, u, v, net, second)
    if refused != NOT_REFUSED:
        return [refused]
    return three_answers(exits_of_places(n, links_of(net)), exits_of_places(m, links_of(second)), u, v)


def refusal(n, u, net, word):
    """The refusal that is due and told first, or NOT_REFUSED."""
    if not is_net(n, net):
        return NOT_A_NET
    if u >= n:
        return NO_PLACE
    if len(word) > MOST_LETTERS:
        return WORD_TOO_LONG
    return NOT_REFUSED


def refusal_of_two(n, m, u, v, net, second):
    """The refusal that is due and told first where there are two nets, or NOT_REFUSED."""
    if not is_net(n, net) or not is_net(m, second):
        return NOT_A_NET
    if u >= n or v >= m:
        return NO_PLACE
    return NOT_REFUSED


def refusal_to_tell_apart(n, m, u, v, net, second):
    """The refusal that is due and told first where two nets are to be told apart, or NOT_REFUSED."""
    refused = refusal_of_two(n, m, u, v, net, second)
    if refused != NOT_REFUSED:
        return refused
    if n > MOST_PLACES_TO_TELL_APART or m > MOST_PLACES_TO_TELL_APART:
        return TOO_MANY_PLACES
    return NOT_REFUSED


def is_net(n, net):
    """Whether n places with the links told by net are a net."""
    # n is asked ahead of all else: it may be too great to make a list of that length.
    if n < 1 or n > MOST_PLACES:
        return False
    if len(net) % 2 != 0 or len(net) > 2 * MOST_LINKS:
        return False
    links = links_of(net)
    return links_are_allowed(n, links) and hang_together(n, links)


def links_of(net):
    """The links as pairs of places, in the order in which they are told."""
    return [(net[k], net[k + 1]) for k in range(0, len(net), 2)]


def links_are_allowed(n, links):
    """Whether each link is between two different places that are there, and no two between the same."""
    met = []
    for one, other in links:
        if one >= n or other >= n or one == other:
            return False
        if (one, other) in met or (other, one) in met:
            return False
        met.append((one, other))
    return True


def hang_together(n, links):
    """Whether every place can be reached from place 0 by links."""
    reached = [place == 0 for place in range(n)]
    # A round that reaches no further place is followed by none that does, so n rounds are enough.
    for turn in range(n):
        for one, other in links:
            if reached[one] or reached[other]:
                reached[one] = True
                reached[other] = True
    return all(reached)


def exits_of_places(n, links):
    """Of each place its exits in order: the place that each leads to, and the exit there by which one comes in."""
    exits = [[] for place in range(n)]
    for one, other in links:
        exit_of_one = len(exits[one])
        exit_of_other = len(exits[other])
        exits[one].append((other, exit_of_other))
        exits[other].append((one, exit_of_one))
    return exits


def seen_at(exits, place, pebble):
    """What is seen at a place: how many exits it has, and how it is with the pebble."""
    if pebble == CARRIED:
        return [len(exits[place]), 2]
    if pebble == place + 1:
        return [len(exits[place]), 1]
    return [len(exits[place]), 0]


def steps_by(exits, u, word):
    """At first at u, then behind each letter: the place, where the pebble is, and what is seen between."""
    steps = [(u, CARRIED, DID_NOT_GO)]
    for letter in word:
        last = steps[-1]
        steps.append(step_by(exits, last[0], last[1], letter))
    return steps


def step_by(exits, place, pebble, letter):
    """Behind one letter: the place, where the pebble is, and what is seen between."""
    if letter == PUT_DOWN and pebble == CARRIED:
        return (place, place + 1, DID_NOT_GO)
    if letter == TAKE_UP and pebble == place + 1:
        return (place, CARRIED, DID_NOT_GO)
    if letter >= FIRST_EXIT and letter - FIRST_EXIT < len(exits[place]):
        way = exits[place][letter - FIRST_EXIT]
        return (way[0], pebble, way[1] + 1)
    return (place, pebble, DID_NOT_GO)


def shortest_word_apart(exits, exits_of_second, u, v):
    """The shortest word that tells u and v apart, of like ones the first by its letters; None if none does."""
    if seen_at(exits, u, CARRIED) != seen_at(exits_of_second, v, CARRIED):
        return []
    letters = FIRST_EXIT + max([len(ways) for ways in exits + exits_of_second])
    start = ((u, CARRIED), (v, CARRIED))
    met = {start: True}
    # Each round goes through longer words, within a round in their order: so the first word that tells apart is the one
    # sought, and a pair that is met again need not be gone on from, for the word that met it first comes first.
    reached = [(start, [])]
    while reached:
        further = []
        for pair, word in reached:
            for letter in range(letters):
                after = pair_behind(exits, exits_of_second, pair, letter)
                if after is None:
                    return word + [letter]
                if after not in met:
                    met[after] = True
                    further.append((after, word + [letter]))
        reached = further
    return None


def pair_behind(exits, exits_of_second, pair, letter):
    """Behind one letter in both nets: of each the place and where the pebble is; None if something else is seen."""
    one = step_by(exits, pair[0][0], pair[0][1], letter)
    other = step_by(exits_of_second, pair[1][0], pair[1][1], letter)
    if one[2] != other[2]:
        return None
    if seen_at(exits, one[0], one[1]) != seen_at(exits_of_second, other[0], other[1]):
        return None
    return ((one[0], one[1]), (other[0], other[1]))


def three_answers(exits, exits_of_second, u, v):
    """1 or 0 each: if they're alike without a pebble, never told apart with one, the same, from u and v on."""
    alike = pairs_met(exits, exits_of_second, u, v) is not None
    never_apart = shortest_word_apart(exits, exits_of_second, u, v) is None
    the_same = naming(exits, exits_of_second, u, v) is not None
    return [1 if holds else 0 for holds in (alike, never_apart, the_same)]


def naming(exits, exits_of_second, u, v):
    """Of each place of the first net the one of the second that it is named by, u by v; None if there's no naming."""
    pairs = pairs_met(exits, exits_of_second, u, v)
    if pairs is None:
        return None
    # All places hang together, so each is in some pair: if there are as many pairs as places, each is in one alone.
    if len(pairs) != len(exits) or len(pairs) != len(exits_of_second):
        return None
    return [pair[1] for pair in pairs]


def pairs_met(exits, exits_of_second, u, v):
    """The places, one of each net, where one is behind like words, sorted; None if without a pebble they tell apart."""
    start = (u, v)
    met = {start: True}
    waiting = [start]
    while waiting:
        pair = waiting.pop()
        ways = exits[pair[0]]
        ways_of_second = exits_of_second[pair[1]]
        # These lists differ too where one place has more exits than the other.
        if [way[1] for way in ways] != [way[1] for way in ways_of_second]:
            return None
        for way, way_of_second in zip(ways, ways_of_second):
            after = (way[0], way_of_second[0])
            if after not in met:
                met[after] = True
                waiting.append(after)
    return sorted(met)
