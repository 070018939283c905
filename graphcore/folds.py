"""The fold and the core of a graph of 1 to 5 places, what its maps hold fast, and how two such graphs compare.

Within this file an arrow is a tuple (from where, to where), and a map is a list: what each place gets.
"""

NO_GRAPH = -22
NO_PLACES = -22
NOT_ALIKE = -33
MOST_PLACES = 5


def core(n, first):
    """How many places the core has, these as the graph numbers them, then the core's arrows."""
    if not is_graph(n, first):
        return [NO_GRAPH]
    arrows = paired(first)
    places = core_places(n, arrows)
    return [len(places)] + places + flat(arrows_between(places, arrows))


def fold(n, first):
    """How many places the graph has, then what each gets by the fold."""
    if not is_graph(n, first):
        return [NO_GRAPH]
    return [n] + first_fold(n, paired(first))


def iscore(n, first):
    """1 if the graph is a core, else 0."""
    if not is_graph(n, first):
        return [NO_GRAPH]
    return [1 if count_hit(first_fold(n, paired(first))) == n else 0]


def below(n, m, first, second):
    """1 if the first graph may be mapped into the second, else 0; then 1 if the second into the first, else 0."""
    if not is_graph(n, first) or not is_graph(m, second):
        return [NO_GRAPH]
    arrows = paired(first)
    others = paired(second)
    return [1 if has_map(n, arrows, m, others) else 0, 1 if has_map(m, others, n, arrows) else 0]


def on(n, first, places):
    """How many places are told, then the arrows between them, numbered anew as the places rise."""
    if not is_graph(n, first):
        return [NO_GRAPH]
    if not are_places(n, places):
        return [NO_PLACES]
    return [len(places)] + flat(arrows_between(places, paired(first)))


def fast(n, first):
    """How many maps of the graph into itself there are, how many hold fast what they hit, how many give none twice."""
    if not is_graph(n, first):
        return [NO_GRAPH]
    arrows = paired(first)
    found = all_maps(n, arrows, n, arrows)
    holding = [gets for gets in found if holds_fast(gets)]
    parting = [gets for gets in found if gives_none_twice(gets)]
    return [len(found), len(holding), len(parting)]


def alike(n, m, first, second):
    """How many places the first's core has, then the first map by which it is the second's core but for names."""
    if not is_graph(n, first) or not is_graph(m, second):
        return [NO_GRAPH]
    arrows = paired(first)
    others = paired(second)
    places = core_places(n, arrows)
    other_places = core_places(m, others)
    kept = arrows_between(places, arrows)
    other_kept = arrows_between(other_places, others)
    found = renamings(len(places), kept, len(other_places), other_kept)
    if len(found) == 0:
        return [NOT_ALIKE]
    return [len(places)] + found[0]


def is_graph(n, numbers):
    """Whether n places and these numbers, two for each arrow, tell a graph."""
    if n < 1 or n > MOST_PLACES:
        return False
    if len(numbers) % 2 == 1:
        return False
    if not all([0 <= number < n for number in numbers]):
        return False
    return is_rising(paired(numbers))


def are_places(n, places):
    """Whether these are places, at least one, of a graph of n places, rising."""
    if len(places) == 0:
        return False
    if not all([0 <= place < n for place in places]):
        return False
    return is_rising(places)


def is_rising(row):
    """Whether each arrow or place of the row stands behind a lesser one; so none stands twice."""
    for k in range(1, len(row)):
        if row[k - 1] >= row[k]:
            return False
    return True


def paired(numbers):
    """The arrows that an even count of numbers tells."""
    return [(numbers[k], numbers[k + 1]) for k in range(0, len(numbers), 2)]


def flat(arrows):
    """The arrows as numbers, two for each."""
    numbers = []
    for start, end in arrows:
        numbers.append(start)
        numbers.append(end)
    return numbers


def all_maps(n, arrows, m, others):
    """All maps of one graph (n, arrows) into another (m, others), in order."""
    found = [[]]
    for place in range(n):
        # An arrow is asked about once, as soon as both its ends get a place: what fails there is not grown further.
        due = [arrow for arrow in arrows if max(arrow) == place]
        # Lesser beginnings come first, and each grows by the lesser place first: that keeps the maps in order.
        longer = []
        for begun in found:
            for given in range(m):
                gets = begun + [given]
                if carries(gets, due, others):
                    longer.append(gets)
        found = longer
    return found


def has_map(n, arrows, m, others):
    """Whether one graph (n, arrows) may be mapped into another (m, others)."""
    return len(all_maps(n, arrows, m, others)) > 0


def carries(gets, arrows, others):
    """Whether each of the arrows becomes one of the others."""
    for start, end in arrows:
        if (gets[start], gets[end]) not in others:
            return False
    return True


def renamings(n, arrows, m, others):
    """All maps, in order, by which one graph (n, arrows) and another (m, others) are the same but for names."""
    return [gets for gets in all_maps(n, arrows, m, others) if changes_names_alone(gets, arrows, m, others)]


def changes_names_alone(gets, arrows, m, others):
    """Whether a map into a graph (m, others) gives no place twice, gives each, and hits each arrow."""
    if not gives_none_twice(gets) or count_hit(gets) != m:
        return False
    became = [(gets[start], gets[end]) for start, end in arrows]
    return all([other in became for other in others])


def hit(gets):
    """The places that a map gives, rising."""
    return sorted(set(gets))


def count_hit(gets):
    """How many places a map gives."""
    return len(set(gets))


def gives_none_twice(gets):
    """Whether a map gives no place twice."""
    return count_hit(gets) == len(gets)


def holds_fast(gets):
    """Whether each place that a map of a graph into itself hits gets itself."""
    return all([gets[place] == place for place in gets])


def first_fold(n, arrows):
    """The first map of the graph into itself by which the fewest places are hit."""
    # There is always one, each place getting itself; and of several least ones, min takes the first.
    return min(all_maps(n, arrows, n, arrows), key=count_hit)


def core_places(n, arrows):
    """The places of the core as the graph numbers them, rising."""
    return hit(first_fold(n, arrows))


def arrows_between(places, arrows):
    """The arrows from and to these rising places, which are numbered anew."""
    # The new numbers rise as the old ones do, so the arrows stay in order.
    kept = [arrow for arrow in arrows if arrow[0] in places and arrow[1] in places]
    return [(places.index(start), places.index(end)) for start, end in kept]
