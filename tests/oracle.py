"""What the tests share: graphs to try, and the document's meanings told once more, without the package."""

import functools
import itertools
import random

REFUSED = [-22]
UNLIKE = [-33]
LARGEST = 4294967295


def both_ways(*edges):
    """The arrows of these edges, both ways, rising, as numbers."""
    return numbers_of({(u, v) for u, v in edges} | {(v, u) for u, v in edges})


def numbers_of(arrows):
    return [number for arrow in sorted(arrows) for number in arrow]


def arrows_of(numbers):
    return set(zip(numbers[0::2], numbers[1::2], strict=True))


def maps(n, arrows, m, others):
    """All maps of one graph into another, in order."""
    return [gets for gets in itertools.product(range(m), repeat=n)
            if all((gets[u], gets[v]) in others for u, v in arrows)]


def below_of(n, m, first, second):
    """Whether each of two graphs, told as numbers, may be mapped into the other, as 1 or 0."""
    arrows, others = arrows_of(first), arrows_of(second)
    return [int(bool(maps(n, arrows, m, others))), int(bool(maps(m, others, n, arrows)))]


def same_but_for_names(n, arrows, m, others):
    """Whether some map gives each place, none twice, and hits each arrow."""
    return n == m and any(len(set(gets)) == n and {(gets[u], gets[v]) for u, v in arrows} == set(others)
                          for gets in maps(n, arrows, m, others))


def fold_of(n, arrows):
    best = None
    for gets in maps(n, arrows, n, arrows):
        if best is None or len(set(gets)) < len(set(best)):
            best = gets
    return list(best)


def core_of(n, arrows):
    """The core's places, and its arrows, numbered anew."""
    places = sorted(set(fold_of(n, arrows)))
    anew = {place: k for k, place in enumerate(places)}
    return places, [(anew[u], anew[v]) for u, v in sorted(arrows) if u in anew and v in anew]


@functools.cache
def core_told_once(n, numbers):
    """The same, but found once for each graph: many pairs have a graph in common."""
    return core_of(n, arrows_of(numbers))


def split_core(answer):
    """A core's answer as its places and its arrows."""
    count = answer[0]
    return answer[1:count + 1], arrows_of(answer[count + 1:])


def on_of(first, places):
    """How many places, and the arrows between them, numbered anew."""
    anew = {place: k for k, place in enumerate(places)}
    return [len(places)] + numbers_of((anew[u], anew[v]) for u, v in arrows_of(first) if {u, v} <= set(places))


def fast_of(n, first):
    """How many maps into itself, how many that hold fast what they hit, how many that give no place twice."""
    arrows = arrows_of(first)
    every = maps(n, arrows, n, arrows)
    return [len(every),
            # A map holds fast what it hits just if, done a second time, it changes nothing more.
            sum(tuple(gets[gets[place]] for place in range(n)) == gets for gets in every),
            sum(sorted(gets) == list(range(n)) for gets in every)]


def alike_of(n, m, first, second):
    """The first change of names by which two graphs' cores are the same, or the refusal."""
    places, arrows = core_told_once(n, tuple(first))
    other_places, others = core_told_once(m, tuple(second))
    if len(places) == len(other_places):
        for gets in itertools.permutations(range(len(places))):
            if {(gets[u], gets[v]) for u, v in arrows} == set(others):
                return [len(places), *gets]
    return UNLIKE


def renamed(first, names):
    """The graph with each place called as names say."""
    return numbers_of((names[u], names[v]) for u, v in arrows_of(first))


def choices_of_places(n):
    """Every choice of at least one of n places, rising."""
    for count in range(1, n + 1):
        for chosen in itertools.combinations(range(n), count):
            yield list(chosen)


def every_graph(n):
    """Every graph of n places, as numbers."""
    possible = list(itertools.product(range(n), repeat=2))
    for chosen in itertools.product((False, True), repeat=len(possible)):
        yield numbers_of(arrow for arrow, taken in zip(possible, chosen) if taken)


def drawn_graphs(n, count):
    """Graphs of n places, the same ones each time; few with an arrow from a place to itself."""
    draw = random.Random(1000 + n)
    for k in range(count):
        share = (k % 9 + 1) / 10
        loops = k % 10 == 0
        yield numbers_of((u, v) for u in range(n) for v in range(n)
                         if (u != v or loops) and draw.random() < share)


def graphs_to_try():
    """All graphs of up to 3 places, and some of 4 and 5, each as how many places and its numbers."""
    for n in (1, 2, 3):
        for first in every_graph(n):
            yield n, first
    for n, count in ((4, 400), (5, 150)):
        for first in drawn_graphs(n, count):
            yield n, first
        yield n, both_ways(*[(k, (k + 1) % n) for k in range(n)])
        yield n, numbers_of((k, (k + 1) % n) for k in range(n))
        yield n, numbers_of((u, v) for u in range(n) for v in range(n) if u != v)


def few_graphs():
    """Some graphs of each count of places, few enough to try each with each."""
    for n in (1, 2):
        for first in every_graph(n):
            yield n, first
    for n in (3, 4, 5):
        yield n, []
        yield n, numbers_of((k, (k + 1) % n) for k in range(n))
        yield n, numbers_of((k, k + 1) for k in range(n - 1))
        yield n, numbers_of((u, v) for u in range(n) for v in range(u + 1, n))
        yield n, numbers_of((u, v) for u in range(n) for v in range(n) if u != v)
        yield n, both_ways(*[(k, (k + 1) % n) for k in range(n)])
        for first in drawn_graphs(n, 18):
            yield n, first


def pairs_to_try():
    """Two graphs at a time, of like and unlike counts of places, each way round: n, m, first, second."""
    few = list(few_graphs())
    for n, first in few:
        for m, second in few:
            yield n, m, first, second


def no_graphs():
    """What is no graph as told: why, how many places, the numbers."""
    full = numbers_of(itertools.product(range(5), repeat=2))
    yield "no places", 0, []
    yield "no places, an arrow", 0, [0, 0]
    yield "too many places", 6, []
    yield "too many places, arrows", 6, [0, 1, 1, 0]
    yield "far too many places", LARGEST, []
    yield "far too many places, an arrow", LARGEST, [LARGEST - 1, LARGEST - 1]
    yield "far too many places, 60 numbers", LARGEST, list(range(60))
    yield "2^31 places", 2 ** 31, [0, 0]
    yield "one number", 2, [0]
    yield "odd count", 3, [0, 1, 1]
    yield "odd count behind a graph", 5, full + [0]
    yield "odd count, 59 numbers", 5, full + [4] * 9
    yield "from what is no place", 3, [3, 0]
    yield "to what is no place", 3, [0, 3]
    yield "from what is no place, last", 3, [0, 1, 3, 0]
    yield "to what is no place, first", 3, [0, 3, 1, 2]
    yield "one place, an arrow to another", 1, [0, 1]
    yield "from the largest number", 5, [LARGEST, 0]
    yield "to the largest number", 5, [0, LARGEST]
    yield "all largest, 60 numbers", 5, [LARGEST] * 60
    yield "all largest, n too", LARGEST, [LARGEST] * 60
    yield "falling by the first", 3, [1, 0, 0, 1]
    yield "falling by the second", 3, [0, 2, 0, 1]
    yield "falling at the end", 3, [0, 1, 1, 2, 1, 0]
    yield "one stands twice", 3, [0, 1, 0, 1]
    yield "one stands twice, apart", 3, [0, 1, 1, 2, 0, 1]
    yield "one from a place to itself stands twice", 1, [0, 0, 0, 0]
    yield "all arrows, then more, 60 numbers", 5, full + full[:10]
    yield "all arrows, the last again, 60 numbers", 5, full + [4, 4] * 5
    yield "60 numbers of one place", 1, [0] * 60


def no_places():
    """What isn't places of a graph of n places, rising: why, n, the numbers."""
    for n in range(1, 6):
        yield "empty", n, []
        yield "the number behind the last place", n, [n]
        yield "all places, then the number behind", n, list(range(n + 1))
        yield "the largest number", n, [LARGEST]
        yield "a place, then the largest number", n, [0, LARGEST]
        yield "the largest number, then a place", n, [LARGEST, 0]
        yield "the largest number, 8 times", n, [LARGEST] * 8
        yield "2^31", n, [2 ** 31]
        yield "2^31 behind a place", n, [0, 2 ** 31]
        yield "8 numbers, rising", n, list(range(8))
        yield "8 large numbers, rising", n, list(range(LARGEST - 7, LARGEST + 1))
        yield "a place twice", n, [n - 1, n - 1]
        yield "the first place twice", n, [0, 0]
        yield "one place, 8 times", n, [0] * 8
        yield "all places, the last one twice", n, list(range(n)) + [n - 1]
        yield "all places, then the first again", n, list(range(n)) + [0]
        if n > 1:
            yield "falling", n, [n - 1, 0]
            yield "all places, falling", n, list(range(n))[::-1]
            yield "the last two change places", n, [*range(n - 2), n - 1, n - 2]


class Untouchable(list):
    """A list that refuses to be changed, be it for a while."""

    def refuse(self, *args, **kwargs):
        raise AssertionError("what was handed in was changed")

    append = extend = insert = pop = remove = clear = sort = reverse = refuse
    __setitem__ = __delitem__ = __iadd__ = __imul__ = refuse
