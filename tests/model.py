"""The document's words taken one by one, slowly, to hold the program's answers against."""

import itertools

BIG = 4294967295

ELEVEN_LINKS = [place for link in list(itertools.combinations(range(6), 2))[:11] for place in link]
# Each breaks what a net is: how many places, an odd length, more than 10 links, a link from a place to itself, two
# links between the same places, a place that isn't there, places that don't hang together.
NO_NETS = (
    (0, []), (0, [0, 1]), (8, [0, 1, 1, 2, 2, 3, 3, 4, 4, 5, 5, 6, 6, 7]), (BIG, []), (BIG, [0, 1]),
    (1, [0]), (2, [0, 1, 0]), (3, [0, 1, 1, 2, 2]), (2, [0, 1] * 11 + [0]),
    (6, ELEVEN_LINKS), (6, ELEVEN_LINKS + [4, 5]), (7, ELEVEN_LINKS + [5, 6]),
    (1, [0, 0]), (2, [0, 1, 1, 1]), (3, [0, 1, 1, 2, 2, 2]),
    (2, [0, 1, 0, 1]), (2, [0, 1, 1, 0]), (3, [2, 1, 0, 1, 1, 2]),
    (1, [0, 1]), (2, [0, 1, 1, 2]), (2, [0, 1, 2, 1]), (2, [0, BIG]), (2, [BIG, 1]), (2, [BIG] * 24),
    (2, []), (3, [0, 1]), (3, [1, 2]), (4, [0, 1, 2, 3]), (6, [0, 1, 1, 2, 2, 0, 3, 4, 4, 5, 5, 3]),
)


def links_at(place, net):
    """The exits of a place: its links, as numbers of links, in the order in which they're told."""
    return [k // 2 for k in range(0, len(net), 2) if place in net[k:k + 2]]


def is_net(n, net):
    if not 1 <= n <= 7 or len(net) % 2 or len(net) > 20:
        return False
    if any(place >= n for place in net):
        return False
    links = [frozenset(net[k:k + 2]) for k in range(0, len(net), 2)]
    if any(len(link) == 1 for link in links) or len(set(links)) < len(links):
        return False
    groups = [{place} for place in range(n)]
    for link in links:
        touched = [group for group in groups if group & link]
        groups = [group for group in groups if not group & link] + [set().union(*touched)]
    return len(groups) == 1


def table(n, net):
    """For each place and letter used where it leads and what is seen then."""
    used = max(len(links_at(place, net)) for place in range(n)) + 1
    steps = {}
    for place in range(n):
        mine = links_at(place, net)
        for letter in range(used):
            there, entry = place, 0
            if 1 <= letter <= len(mine):
                link = mine[letter - 1]
                there = sum(net[2 * link:2 * link + 2]) - place
                entry = 1 + links_at(there, net).index(link)
            steps[place, letter] = (there, (entry, len(links_at(there, net))))
    return used, steps


def gone(place, word, steps):
    """Where a word leads, and what is seen by it behind the first sight."""
    sights = []
    for letter in word:
        place, sight = steps[place, letter]
        sights.append(sight)
    return place, sights


def are_alike(n, net, u, v):
    """Whether by all words of n - 1 letters the same is seen: places that aren't alike are told apart by then."""
    if u == v:
        return True
    if len(links_at(u, net)) != len(links_at(v, net)):
        return False
    used, steps = table(n, net)
    words = itertools.product(range(used), repeat=n - 1)
    return all(gone(u, word, steps)[1] == gone(v, word, steps)[1] for word in words)


def distance(n, net, a, b):
    """The fewest links between two places, by going one link on at a time."""
    here, count = {a}, 0
    while b not in here:
        here = here | {p for k in range(0, len(net), 2) for p in net[k:k + 2] if here & set(net[k:k + 2])}
        count += 1
    return count


def near(n, u, v, net, longest):
    """How near alike places come by words of at most so many letters, and the first such word."""
    used, steps = table(n, net)
    best = None
    for count in range(longest + 1):
        for word in itertools.product(range(used), repeat=count):
            away = distance(n, net, gone(u, word, steps)[0], gone(v, word, steps)[0])
            if best is None or away < best[0]:
                best = [away, count] + list(word)
    return best


def twos_reached(n, u, v, net):
    """All twos of places to which words lead from u and v, gone on till no more come: no bound of a word is needed."""
    used, steps = table(n, net)
    here, more = set(), {(u, v)}
    while more:
        here |= more
        more = {(steps[a, x][0], steps[b, x][0]) for a, b in more for x in range(used)} - here
    return here


def least(n, u, v, net):
    """The answer for a net and places that are as told: 0 if by some word something else is seen, else how near."""
    used, steps = table(n, net)
    twos = twos_reached(n, u, v, net)
    for a, b in twos:
        if len(links_at(a, net)) != len(links_at(b, net)):
            return 0
        if any(steps[a, letter][1] != steps[b, letter][1] for letter in range(used)):
            return 0
    return min(distance(n, net, a, b) for a, b in twos)


def twins(n, d, net):
    """The answer for a net as told; the twos that aren't alike have a least of 0, which is above no d."""
    twos = [(u, v) for u, v in itertools.combinations(range(n), 2) if least(n, u, v, net) > d]
    return [len(twos)] + [place for two in twos for place in two]


def meets(u, v, d, net, word):
    """Both wanderers gone step by step; the answer for a net and places that are as told."""
    here, step = [u, v], 0
    while here[0] != here[1]:
        if step == len(word) + d:
            return [-33]
        for who, begins in ((0, 0), (1, d)):
            mine = links_at(here[who], net)
            if begins <= step < begins + len(word) and 1 <= word[step - begins] <= len(mine):
                link = mine[word[step - begins] - 1]
                here[who] = sum(net[2 * link:2 * link + 2]) - here[who]
        step += 1
    return [step, here[0]]


def found_by_trying(n, u, v, d, net, longest):
    """The first of the shortest words, of at most so many letters, by which they meet as it ends; None if none does."""
    used = table(n, net)[0]
    for count in range(longest + 1):
        for word in itertools.product(range(used), repeat=count):
            if meets(u, v, d, net, word)[0] == count:
                return [count] + list(word)
    return None


def ranks(n, d, net):
    """Once both go: of where both are and the last d letters how few steps from there they meet, if ever they can.

    It is gone backward from where they have met, so it tells for good that by no word they meet.
    """
    used, steps = table(n, net)
    onward = {}
    for a, b, last in itertools.product(range(n), range(n), itertools.product(range(used), repeat=d)):
        onward[a, b, last] = [
            (steps[a, x][0], steps[b, (last + (x,))[0]][0], (last + (x,))[1:]) for x in range(used)
        ]
    few = {state: 0 for state in onward if state[0] == state[1]}
    count = 0
    while count in few.values():
        for state in onward:
            if state not in few and any(few.get(after) == count for after in onward[state]):
                few[state] = count + 1
        count += 1
    return few, onward


def found(n, u, v, d, net, told=None):
    """The whole answer for a net and places that are as told, from the ranks (told: those, if they're there)."""
    few, onward = told or ranks(n, d, net)
    used, steps = table(n, net)
    words = []
    for count in range(d + 1):
        for word in itertools.product(range(used), repeat=count):
            state = (gone(u, word, steps)[0], v, word)
            if state[0] == v:
                words.append([count] + list(word))
            elif count == d and state in few:
                # Of the letters that lead on with one step fewer to go the first.
                while few[state] > 0:
                    left = few[state] - 1
                    letter = [few.get(after) for after in onward[state]].index(left)
                    word, state = word + (letter,), onward[state][letter]
                words.append([len(word)] + list(word))
    return min(words, default=[-33])


def some_net(chance, n):
    """Any net of n places."""
    pairs = list(itertools.combinations(range(n), 2))
    while True:
        links = chance.sample(pairs, chance.randint(n - 1, min(10, len(pairs))))
        net = [place for link in links for place in chance.sample(link, 2)]
        if is_net(n, net):
            return net


def mirrored_net(chance, n):
    """A net of n places, n even, in which 0 and 1, 2 and 3, 4 and 5 are alike: each link has its twin beside it."""
    pairs = list(itertools.combinations(range(n), 2))
    while True:
        net = []
        for a, b in chance.sample(pairs, len(pairs)):
            link, twin = [a, b], [a ^ 1, b ^ 1]
            here = [set(net[k:k + 2]) for k in range(0, len(net), 2)]
            new = link if set(link) == set(twin) else link + twin
            if set(link) not in here and len(net) + len(new) <= 20:
                net += new
            if is_net(n, net) and chance.random() < 0.3:
                return net


def net_of_matchings(chance, n):
    """A net of n places, n even, in which all are alike: by exit e each place is linked to exit e of its fellow."""
    while True:
        net = []
        for turn in range(chance.randint(1, 4)):
            places = chance.sample(range(n), n)
            net += places
        if is_net(n, net):
            return net


def renamed(chance, n, net):
    """The same net with its places numbered otherwise."""
    names = chance.sample(range(n), n)
    return [names[place] for place in net]
