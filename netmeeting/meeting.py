"""Two wanderers on a net who go by the same word: how near they come, and whether they meet."""

NO_NET = -22
NO_PLACE = -2
NOT_ALIKE = -33
TOO_LONG = -22
NO_MEETING = -33
TOO_MANY_WAYS = -75

MOST_PLACES = 7
MOST_LINKS = 10
MOST_LETTERS = 30
MOST_STEPS_LATER = 20
MOST_STEPS_LATER_TO_SEARCH = 2
MOST_EXITS_TO_SEARCH = 4


def near(n, u, v, net):
    """How near the alike places u and v come, how many letters the first shortest such word has, and the word."""
    refused = refusal(n, u, v, net)
    if refused is not None:
        return [refused]
    exits = exits_of(n, net)
    if not alike(u, v, exits):
        return [NOT_ALIKE]
    words = words_to_states(u, v, 0, exits)
    # min takes the first of like ones, and the states stand in the order of their words.
    nearest = min(list(words), key=lambda state: distance(state[0], state[1], exits))
    word = words[nearest]
    return [distance(nearest[0], nearest[1], exits), len(word)] + word


def meets(n, u, v, d, net, word):
    """Behind how many steps the wanderers from u and, d steps later, from v meet by the word, and where."""
    refused = refusal(n, u, v, net)
    if refused is not None:
        return [refused]
    if len(word) > MOST_LETTERS or d > MOST_STEPS_LATER:
        return [TOO_LONG]
    exits = exits_of(n, net)
    first = places_by_word(u, word, exits)
    second = places_by_word(v, word, exits)
    for step in range(len(word) + d + 1):
        place = place_at(step, first)
        if place == place_at(step - d, second):
            return [step, place]
    return [NO_MEETING]


def can(n, u, v, d, net):
    """1 if u and v aren't alike or come as near as d steps, else 0."""
    refused = refusal(n, u, v, net)
    if refused is not None:
        return [refused]
    if kept_apart(u, v, d, exits_of(n, net)):
        return [0]
    return [1]


def found(n, u, v, d, net):
    """Behind how few steps the wanderers from u and, d steps later, from v can meet, and the first word to do it."""
    refused = refusal(n, u, v, net)
    if refused is not None:
        return [refused]
    exits = exits_of(n, net)
    if d > MOST_STEPS_LATER_TO_SEARCH or most_exits(exits) > MOST_EXITS_TO_SEARCH:
        return [TOO_MANY_WAYS]
    words = words_to_states(u, v, d, exits)
    for state in list(words):
        if state[0] == state[1]:
            return [len(words[state])] + words[state]
    return [NO_MEETING]


def least(n, u, v, net):
    """0 if u and v aren't alike, else how near they come."""
    refused = refusal(n, u, v, net)
    if refused is not None:
        return [refused]
    exits = exits_of(n, net)
    if not alike(u, v, exits):
        return [0]
    return [how_near(u, v, exits)]


def twins(n, d, net):
    """How many twos of alike places, the lesser first, don't come as near as d steps, and these in order."""
    if not is_net(n, net):
        return [NO_NET]
    exits = exits_of(n, net)
    twos = [two for two in twos_of_places(n) if kept_apart(two[0], two[1], d, exits)]
    answer = [len(twos)]
    for u, v in twos:
        answer.extend([u, v])
    return answer


def refusal(n, u, v, net):
    """The refusal that is due of a net and two of its places, or None."""
    if not is_net(n, net):
        return NO_NET
    if u >= n or v >= n:
        return NO_PLACE
    return None


def is_net(n, net):
    """Whether n places and these links make a net."""
    if n < 1 or n > MOST_PLACES:
        return False
    if len(net) % 2 == 1 or len(net) > 2 * MOST_LINKS:
        return False
    return are_links(n, links_of(net)) and hangs_together(exits_of(n, net))


def links_of(net):
    """The links as twos of places, in the order in which they're told."""
    return [(net[k], net[k + 1]) for k in range(0, len(net), 2)]


def are_links(n, links):
    """Whether each link is between two different places that are there, and no two between the same."""
    told = {}
    for a, b in links:
        if a >= n or b >= n or a == b or (a, b) in told:
            return False
        # A link may be told again the other way round.
        told[(a, b)] = True
        told[(b, a)] = True
    return True


def exits_of(n, net):
    """Of each place its exits in order: the place each leads to, and the exit of that place by which one comes in."""
    exits = [[] for place in range(n)]
    for a, b in links_of(net):
        exit_of_a = len(exits[a])
        exit_of_b = len(exits[b])
        exits[a].append((b, exit_of_b))
        exits[b].append((a, exit_of_a))
    return exits


def hangs_together(exits):
    """Whether every place is reached from place 0."""
    return len(distances_from(0, exits)) == len(exits)


def distances_from(start, exits):
    """How many links each place that can be reached is away from start."""
    away = {start: 0}
    reached = [start]
    at = 0
    while at < len(reached):
        place = reached[at]
        for way in exits[place]:
            if way[0] not in away:
                away[way[0]] = away[place] + 1
                reached.append(way[0])
        at += 1
    return away


def distance(a, b, exits):
    """How many links the two places are away from each other."""
    return distances_from(a, exits)[b]


def most_exits(exits):
    """The most exits that a place has."""
    return max([len(ways) for ways in exits])


def behind_letter(place, letter, exits):
    """The place to which a letter leads."""
    if letter == 0 or letter > len(exits[place]):
        return place
    return exits[place][letter - 1][0]


def places_by_word(start, word, exits):
    """The places where one is behind 0 letters of the word, behind 1, and so on to its end."""
    places = [start]
    for letter in word:
        places.append(behind_letter(places[-1], letter, exits))
    return places


def place_at(step, places):
    """Where one is that stands till step 0 in the first of these places, and from their end on in the last."""
    return places[min(max(step, 0), len(places) - 1)]


def alike(u, v, exits):
    """Whether by no word something else is seen from u than from v."""
    marks = [len(ways) for ways in exits]
    # A round that splits no mark is the last that could, and there are no more marks than places.
    for step in range(len(exits)):
        marks = marks_one_step_on(marks, exits)
    return marks[u] == marks[v]


def marks_one_step_on(marks, exits):
    """New marks, the same for places that had the same and see the same marks by each exit."""
    sights = [sight_from(place, marks, exits) for place in range(len(exits))]
    return [sights.index(sight) for sight in sights]


def sight_from(place, marks, exits):
    """The mark of a place, and of each exit by which exit one comes in and the mark of the place there."""
    return (marks[place], [(came_in, marks[there]) for there, came_in in exits[place]])


def twos_of_places(n):
    """All twos of different places, the lesser first, in order."""
    twos = []
    for u in range(n):
        for v in range(u + 1, n):
            twos.append((u, v))
    return twos


def kept_apart(u, v, d, exits):
    """Whether u and v are alike and don't come as near as d steps."""
    return alike(u, v, exits) and how_near(u, v, exits) > d


def how_near(u, v, exits):
    """The least distance of two places to which one word leads from u and v."""
    states = list(words_to_states(u, v, 0, exits))
    return min([distance(state[0], state[1], exits) for state in states])


def words_to_states(u, v, d, exits):
    """Of each state that the wanderers come to the first of the shortest words that lead there.

    A state is where the first is, where the second is, and the letters that the second has still to go by.
    They stand in the order of their words: shorter ones first, of like length by the first letter that differs.
    """
    start = (u, v, ())
    words = {start: []}
    reached = [start]
    at = 0
    while at < len(reached):
        state = reached[at]
        # A letter above the most exits leads nowhere else than 0, so it is in no first shortest word.
        for letter in range(most_exits(exits) + 1):
            onward = state_one_step_on(state, letter, d, exits)
            if onward not in words:
                words[onward] = words[state] + [letter]
                reached.append(onward)
        at += 1
    return words


def state_one_step_on(state, letter, d, exits):
    """The state behind a step in which the first goes by the letter, and the second by the one of d steps ago."""
    first = behind_letter(state[0], letter, exits)
    waiting = state[2] + (letter,)
    if len(waiting) <= d:
        return (first, state[1], waiting)
    return (first, behind_letter(state[1], waiting[0], exits), waiting[1:])
