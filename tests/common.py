"""What several tests share: webs, crowds, numbers by a fixed rule, and how an error is told."""

from fractions import Fraction
from itertools import combinations, permutations, product
from math import lcm

from steprows.classes import Classes
from steprows.crowds import Crowd, exchanged, words_in, words_of
from steprows.errors import StepError
from steprows.leans import Lean
from steprows.pairs import PairSum
from steprows.ratios import Ratio
from steprows.runs import Run
from steprows.shapes import rounds
from steprows.shares import Shares
from steprows.standing import standing_run
from steprows.tables import RatioTable
from steprows.ways import even_base
from steprows.webs import Web

BIG_CROWD = Crowd((2, 2, 1, 1, 1, 1))


def told(call, *things, **more):
    """The error's class name and attributes, in the order in which they were given."""
    try:
        call(*things, **more)
    except StepError as error:
        return (error.__class__.__name__,) + tuple(vars(error).values())
    return None


class Numbers:
    """Numbers that look arbitrary but are the same in each run."""

    def __init__(self, seed=1):
        self.state = seed

    def below(self, bound):
        self.state = (self.state * 6364136223846793005 + 1442695040888963407) % 2 ** 64
        return (self.state >> 33) % bound

    def ratio(self):
        return Ratio(1 + self.below(5), 1 + self.below(4))

    def ratios(self, many):
        return [self.ratio() for _ in range(many)]

    def choice(self, things):
        return things[self.below(len(things))]

    def shuffled(self, things):
        rest, out = list(things), []
        while rest:
            out.append(rest.pop(self.below(len(rest))))
        return out


def renamed(web, order):
    """The web with the place u called order[u]."""
    return Web(web.size, sorted(tuple(sorted((order[u], order[v]))) for u, v in web.ties))


def some_webs(size):
    """Webs of every shape, the places in several orders."""
    numbers = Numbers(size)
    webs = [Web.row(size), Web.ring(size), Web.star(size), Web.full(size)]
    if size >= 4:
        webs.append(Web.ring(size) + (0, 2))
        webs.append(Web.row(size) + (0, 2))
        webs.append(Web.full(size) - (0, 1))
    for web in list(webs):
        webs.append(renamed(web, numbers.shuffled(range(size))))
    return webs


def small_crowds(size, kinds=(2, 3, 4)):
    """Crowds of that size with that many kinds."""
    found = []
    for many in kinds:
        for cuts in combinations(range(1, size), many - 1):
            ends = (0,) + cuts + (size,)
            found.append(Crowd([high - low for low, high in zip(ends, ends[1:])]))
    return found


def fraction(thing):
    if isinstance(thing, Ratio):
        return Fraction(thing.top, thing.bottom)
    return Fraction(thing)


def ratio(number):
    return Ratio(number.numerator, number.denominator)


def words_from(size, kinds):
    """All words of that size, with any counts."""
    return list(product(range(kinds), repeat=size))


def all_rings(web):
    """All rings of places of the web, begun at each place and read in each direction."""
    return [
        ring for many in range(3, web.size + 1) for ring in permutations(range(web.size), many)
        if all(pair in web for pair in zip(ring, ring[1:] + ring[:1]))
    ]


def all_three_walks(web, crowd):
    """All six-walks and all round-walks of either direction, by their places and words."""
    walks = set()
    corners = [(u, v, s) for v in range(web.size) for u, s in permutations(web.near(v), 2)]
    rings = all_rings(web)
    for word in words_of(crowd):
        for u, v, s in corners:
            if len({word[u], word[v], word[s]}) == 3:
                walks.add(walked(word, [(u, v), (v, s)] * 3))
        for ring in rings:
            if word[ring[0]] != word[ring[1]]:
                ties = list(zip(ring, ring[1:] + ring[:1]))
                walk = walked(word, ties[:-1] + [ties[-1]] + ties[-2:0:-1])
                walks.update((walk, walk[::-1]))
    return walks


def walked(word, ties):
    """The different words on the way when the kinds at these ties are exchanged in turn."""
    walk = [tuple(word)]
    for u, v in ties:
        after = list(walk[-1])
        after[u], after[v] = after[v], after[u]
        if tuple(after) != walk[-1]:
            walk.append(tuple(after))
    return tuple(walk)


def some_run(web, kinds, seed=1, zeros=False):
    numbers = Numbers(seed)
    tables = []
    for _ in web.ties:
        table = [[numbers.ratio() for _ in range(kinds)] for _ in range(kinds)]
        for a in range(kinds):
            table[a][a] = 0
            if zeros and numbers.below(2):
                table[a][a - 1] = 0
        tables.append(table)
    return Run(web, kinds, tables)


def some_table(web, kinds, seed=1):
    """A ratio table of which no rule need hold."""
    numbers = Numbers(seed)
    entries = []
    for _ in web.ties:
        table = [[Ratio(1)] * kinds for _ in range(kinds)]
        for a, b in combinations(range(kinds), 2):
            table[a][b] = numbers.ratio()
            table[b][a] = table[a][b].inverse()
        entries.append(table)
    return RatioTable(web, kinds, entries)


def some_values(web, crowd, seed=1, order=True):
    """For each word a value with which it is local, by [21]; ordered ones where there is a line."""
    numbers = Numbers(seed)
    spots = [[fraction(numbers.ratio()) for _ in crowd.counts] for _ in range(crowd.size)]
    orders = [[fraction(numbers.ratio()) for _ in crowd.counts] for _ in crowd.counts]
    values = {}
    for word in words_in(crowd):
        value = Fraction(1)
        for place, kind in enumerate(word):
            value *= spots[place][kind]
        if order and web.along is not None:
            for p, q in combinations(web.along, 2):
                value *= orders[word[p]][word[q]]
        values[word] = value
    return values


def table_by(web, crowd, values):
    """The table of the values, each entry by the first word that shows it; the values are local."""
    entries = []
    for u, v in web.ties:
        table = [[None] * crowd.kinds for _ in crowd.counts]
        for word, value in values.items():
            if table[word[u]][word[v]] is None:
                table[word[u]][word[v]] = ratio(values[exchanged(word, u, v)] / value)
        for a in range(crowd.kinds):
            table[a][a] = 1
        entries.append(table)
    return RatioTable(web, crowd.kinds, entries)


def kept_table(web, crowd, seed=1):
    return table_by(web, crowd, some_values(web, crowd, seed))


def some_rows(web, kinds, seed=1):
    """A row of positive ratios for each tie, one for each two kinds."""
    numbers = Numbers(seed)
    return [numbers.ratios(kinds * (kinds - 1) // 2) for _ in web.ties]


def some_standing_run(web, crowd, seed=1):
    return standing_run(kept_table(web, crowd, seed), some_rows(web, crowd.kinds, seed))


def even_run(web, kinds, seed=1):
    """A full run with a lean that runs round, so that it is even for each crowd; on a tree it stands."""
    numbers = Numbers(seed)
    tables = {tie: [[Fraction(0)] * kinds for _ in range(kinds)] for tie in web.ties}
    for ring in rounds(web):
        strength = [fraction(numbers.ratio()) for _ in range(kinds)]
        for u, v in zip(ring, ring[1:] + ring[:1]):
            for a, b in product(range(kinds), repeat=2):
                tables[(min(u, v), max(u, v))][a][b] += (strength[a] - strength[b]) * (1 if u < v else -1)
    for table in tables.values():
        for a, b in combinations(range(kinds), 2):
            speed, lean = fraction(numbers.ratio()), table[a][b]
            table[a][b], table[b][a] = speed + max(lean, 0), speed + max(-lean, 0)
    return Run(web, kinds, [[[ratio(rate) for rate in row] for row in tables[tie]] for tie in web.ties])


def chances_of(values):
    """The values divided by their sum, words in order."""
    return [value / sum(values.values()) for _, value in sorted(values.items())]


def share_chances(shares):
    return [Fraction(weight, shares.bottom) for weight in shares.weights]


def changed(table, number, a, b, factor=7):
    """The table with one entry multiplied."""
    entries = [[list(row) for row in tie] for tie in table.entries]
    entries[number][a][b] = entries[number][a][b] * factor
    entries[number][b][a] = entries[number][a][b].inverse()
    return RatioTable(table.web, table.kinds, entries)


def solved_shares(run, crowd):
    """The lasting shares of a full run, by elimination over its steps."""
    words = words_of(crowd)
    many = len(words)
    rows = [[Fraction(0)] * many for _ in words]
    for at, word in enumerate(words):
        for u, v in run.web.ties:
            rate = fraction(run.rate(u, v, word[u], word[v]))
            rows[words.index(exchanged(word, u, v))][at] += rate
            rows[at][at] -= rate
    # One chance is set to 1 in place of the last equation, which follows from the others.
    rows = [row[:-1] + [-row[-1]] for row in rows[:-1]]
    for at in range(many - 1):
        pivot = next(number for number in range(at, many - 1) if rows[number][at])
        rows[at], rows[pivot] = rows[pivot], rows[at]
        rows[at] = [entry / rows[at][at] for entry in rows[at]]
        for number in range(many - 1):
            if number != at and rows[number][at]:
                factor = rows[number][at]
                rows[number] = [entry - factor * more for entry, more in zip(rows[number], rows[at])]
    chances = [row[-1] for row in rows] + [Fraction(1)]
    bottom = lcm(*[chance.denominator for chance in chances])
    return Shares(crowd, [int(chance * bottom) for chance in chances])


def spread_chances(table, crowd):
    """What the table makes of the chance 1 of the first word, by way of every step; None if steps disagree."""
    words = words_of(crowd)
    found = {words[0]: Fraction(1)}
    waiting = [words[0]]
    while waiting:
        word = waiting.pop()
        for u, v in table.web.ties:
            after = exchanged(word, u, v)
            chance = found[word] * fraction(table.at(u, v, word[u], word[v]))
            if after not in found:
                found[after] = chance
                waiting.append(after)
            elif found[after] != chance:
                return None
    return [found[word] for word in words]


def rank(rows):
    """The rank of a table of numbers."""
    rows = [list(row) for row in rows]
    done = 0
    for column in range(len(rows[0]) if rows else 0):
        pivot = next((number for number in range(done, len(rows)) if rows[number][column]), None)
        if pivot is None:
            continue
        rows[done], rows[pivot] = rows[pivot], rows[done]
        for number in range(done + 1, len(rows)):
            factor = Fraction(rows[number][column]) / rows[done][column]
            if factor:
                rows[number] = [entry - factor * more for entry, more in zip(rows[number], rows[done])]
        done += 1
    return done


def some_pairs(size, kinds, seed=1):
    """A pair sum with entries of any sign."""
    numbers = Numbers(seed)
    return PairSum(size, kinds, [
        [[numbers.ratio() - numbers.ratio() for _ in range(kinds)] for _ in range(kinds)]
        for _ in combinations(range(size), 2)
    ])


def some_lean(size, kinds, seed=1, web=None):
    """A lean with entries of any sign, on all pairs of places or on a web."""
    numbers = Numbers(seed)
    tables = []
    for pair in combinations(range(size), 2):
        table = [[Ratio(0)] * kinds for _ in range(kinds)]
        for a, b in combinations(range(kinds), 2):
            table[a][b] = numbers.ratio() - numbers.ratio() if web is None or pair in web else Ratio(0)
            table[b][a] = -table[a][b]
        tables.append(table)
    return Lean(size, kinds, tables)


def pair_value(pairs, word):
    """What [46] tells of the pair sum at a word."""
    return sum(fraction(pairs.at(u, v, word[u], word[v])) for u, v in combinations(range(pairs.size), 2))


def all_ratios(thing):
    """True if what stands in nested tuples are Ratios only."""
    if isinstance(thing, tuple):
        return all(all_ratios(part) for part in thing)
    return isinstance(thing, Ratio)


def even_lean(web, crowd, seed=1):
    """A lean of an even run on the web: a sum of multiples of all there are."""
    numbers = Numbers(seed)
    lean = Lean.nothing(web.size, crowd.kinds)
    for one in even_base(web, crowd):
        lean = lean + one * (numbers.ratio() - numbers.ratio())
    return lean


def loose_threefold():
    """Threefold webs of five to seven places that are loose."""
    return [
        Web(5, ((0, 1), (0, 2), (0, 3), (1, 4))), Web(6, ((0, 1), (0, 2), (0, 3), (1, 4), (1, 5))),
        Web(6, ((0, 5), (1, 2), (1, 3), (2, 4), (3, 4), (4, 5))),
        Web(7, ((0, 1), (0, 6), (1, 2), (2, 3), (2, 5), (3, 4), (4, 5), (5, 6))),
        Web(5, ((0, 3), (1, 3), (1, 4), (2, 4), (3, 4))),
        Web(6, ((0, 1), (0, 3), (0, 4), (0, 5), (1, 2), (1, 3), (1, 4), (2, 4), (4, 5))),
    ]


def ring_steps_of(web):
    """The steps of a ring along its line, by hand: from place 0 on, first to the lesser near one."""
    line = [0, min(web.near(0))]
    while len(line) < web.size:
        line += [place for place in web.near(line[-1]) if place != line[-2]]
    return list(zip(line, line[1:] + [0]))


def is_round(web, strengths):
    """True if what runs out of each place runs into it."""
    out = [Fraction(0)] * web.size
    for (u, v), strength in zip(web.ties, strengths):
        out[u] += fraction(strength)
        out[v] -= fraction(strength)
    return not any(out)


def flow_by_words(run, chances, u, v, a):
    """The flow of [86], word by word; chances gives each word its chance."""
    flow = Fraction(0)
    for word, chance in chances.items():
        if word[u] == a:
            flow += chance * fraction(run.rate(u, v, a, word[v]))
        if word[v] == a:
            flow -= chance * fraction(run.rate(u, v, word[u], a))
    return flow


def word_chances(shares):
    return dict(zip(words_of(shares.crowd), share_chances(shares)))


def some_weights(crowd, seed=1):
    """Weights of at least 0, some of them 0."""
    numbers = Numbers(seed)
    return [numbers.below(4) for _ in range(crowd.many - 1)] + [1]


def circulation(web, numbers):
    """What runs round the rounds of the web with arbitrary strengths, read from u to v for each tie u < v."""
    found = {tie: Fraction(0) for tie in web.ties}
    for ring in rounds(web):
        strength = fraction(numbers.ratio()) * (1 - 2 * numbers.below(2))
        for u, v in zip(ring, ring[1:] + ring[:1]):
            found[min(u, v), max(u, v)] += strength if u < v else -strength
    return found


def joined_by(size, ties):
    """For each place the least one that it is joined to by the ties."""
    label = list(range(size))
    for u, v in ties:
        low, high = sorted((label[u], label[v]))
        label = [low if one == high else one for one in label]
    return label


def spun_run(web, kinds, seed=1):
    """A full run by [95], with its f and s, and the table of its f."""
    numbers = Numbers(seed)
    spun = [circulation(web, numbers) for _ in range(kinds)]
    label = joined_by(web.size, [tie for tie in web.ties if len({one[tie] for one in spun}) > 1])
    own = [[fraction(numbers.ratio()) for _ in range(kinds)] for _ in range(web.size)]
    spots = [[part * more for part in own[least]] for least, more in zip(label, (1, 2, 5, 1, 3, 1, 2, 7))]
    rates, entries = [], []
    for u, v in web.ties:
        steps = [[spots[u][b] * spots[v][a] / (spots[u][a] * spots[v][b]) for b in range(kinds)] for a in range(kinds)]
        table = [[Fraction(0)] * kinds for _ in range(kinds)]
        for a, b in combinations(range(kinds), 2):
            table[b][a] = 9000 + fraction(numbers.ratio())
            table[a][b] = table[b][a] * steps[a][b] + spun[a][u, v] - spun[b][u, v]
        rates.append([[ratio(one) for one in row] for row in table])
        entries.append([[ratio(one) for one in row] for row in steps])
    return Run(web, kinds, rates), RatioTable(web, kinds, entries)


def some_parting(crowd, seed=1):
    """A parting of the kinds into two lots or more, lots and kinds in any order."""
    numbers = Numbers(seed)
    while True:
        lot = [numbers.below(crowd.kinds) for _ in crowd.counts]
        if len(set(lot)) > 1:
            break
    lots = [[kind for kind, one in enumerate(lot) if one == number] for number in set(lot)]
    return numbers.shuffled([numbers.shuffled(one) for one in lots])


def some_ratios(crowd, parting, seed=1):
    """Ratios inside the lots, of which those of each kind have the product 1 by the counts."""
    numbers = Numbers(seed)
    table = [[Fraction(1)] * crowd.kinds for _ in crowd.counts]
    for lot in parting:
        for three in combinations(lot, 3):
            factor = fraction(numbers.choice([Ratio(2), Ratio(1, 2), Ratio(3), Ratio(2, 3)]))
            for a, b, c in (three, three[1:] + three[:1], three[2:] + three[:2]):
                table[a][b] *= factor ** crowd.counts[c]
                table[b][a] /= factor ** crowd.counts[c]
    return [[ratio(one) for one in row] for row in table]


def some_classes(crowd, parting=None, seed=1):
    """Classes with told lots, or any, and arbitrary numbers and ratios."""
    numbers = Numbers(seed)
    lots = some_parting(crowd, seed) if parting is None else parting
    leans = []
    while len(leans) < len(lots):
        lean = numbers.ratio() - numbers.ratio()
        leans += [] if lean in leans else [lean]
    return Classes(crowd, lots, leans, some_ratios(crowd, lots, seed))
