"""Walks from word to word."""

from steprows.checks import (
    check_free_word, check_place_row, check_places, check_web_crowd, is_below, is_row, is_row_of,
)
from steprows.crowds import check_word, exchanged
from steprows.errors import BadKind, BadPlace, BadWord
from steprows.shapes import path_over


def is_word(web, word, kinds):
    """True for a list or tuple of one of so many kinds for each place."""
    return is_row_of(word, web.size) and all([is_below(kind, kinds) for kind in word])


def step_tie(web, before, after):
    """The tie over which one step leads from the one word to the other; None if none does."""
    for u, v in web.ties:
        if before[u] != before[v] and exchanged(before, u, v) == tuple(after):
            return (u, v)
    return None


def walk_steps(web, kinds, words):
    """The steps of a walk as tuples (u, v, kind at u, kind at v); None if words is no walk."""
    if not is_row(words) or len(words) < 1:
        return None
    if not all([is_word(web, word, kinds) for word in words]):
        return None
    steps = []
    for before, after in zip(words, words[1:]):
        tie = step_tie(web, before, after)
        if tie is None:
            return None
        u, v = tie
        steps.append((u, v, before[u], before[v]))
    return steps


def check_walk(holder, words):
    """The steps of a walk with the web and the kinds of the run or table."""
    steps = walk_steps(holder.web, holder.kinds, words)
    if steps is None:
        raise BadWord(-1)
    return steps


def is_walk(web, words):
    """True if words is a walk on the web."""
    return walk_steps(web, 6, words) is not None


def walk_over(word, ties):
    """The words from the word on, exchanging over each tie in turn; alike kinds make no new word."""
    walk = [word]
    for u, v in ties:
        if walk[-1][u] != walk[-1][v]:
            walk.append(exchanged(walk[-1], u, v))
    return tuple(walk)


def six_walk(web, word, places):
    """The closed walk that exchanges six times by turns over the ties u-v and v-s."""
    here = check_free_word(web.size, word)
    check_place_row(web.size, places, 3)
    u, v, s = places
    web.number_of(u, v)
    web.number_of(v, s)
    kinds = (here[u], here[v], here[s])
    for kind in kinds:
        if kinds.count(kind) > 1:
            raise BadKind(kind)
    return walk_over(here, [(u, v), (v, s)] * 3)


def check_ring(web, ring):
    """The ties of a ring of places, each read in the ring's direction, the closing one last."""
    if not is_row(ring) or len(ring) < 3:
        raise BadPlace(-1)
    check_places(web.size, ring)
    ties = list(zip(ring, list(ring[1:]) + [ring[0]]))
    for u, v in ties:
        web.number_of(u, v)
    return ties


def round_walk(web, word, ring, *, turned=False):
    """The closed walk of two walkers round a ring, [12]; if turned, its words in the opposite order."""
    here = check_free_word(web.size, word)
    ties = check_ring(web, ring)
    if here[ring[0]] == here[ring[1]]:
        raise BadKind(here[ring[0]])
    # The first walker takes all ties but the closing one, the other one
    # the closing one and then back all but the tie they began at.
    walk = walk_over(here, ties[:-1] + ties[:0:-1])
    if turned:
        return walk[::-1]
    return walk


def square(web, word, tie, other_tie):
    """The closed walk that exchanges by turns over two ties without a common place."""
    here = check_free_word(web.size, word)
    for u, v in (tie, other_tie):
        web.number_of(u, v)
    for place in other_tie:
        if place in tie:
            raise BadPlace(place)
    for u, v in (tie, other_tie):
        if here[u] == here[v]:
            raise BadKind(here[u])
    return walk_over(here, [tie, other_tie] * 2)


def grown(web):
    """All places, each after the first one near an earlier one."""
    order = [0]
    while len(order) < web.size:
        later = [place for place in range(web.size) if place not in order]
        order.append(min([place for place in later if any([(place, early) in web for early in order])]))
    return order


def brought(web, word, free, place, kind):
    """The walk that brings a walker of the kind to the place, over ties of it and the free places."""
    if word[place] == kind:
        return (word,)
    ties = [(u, v) for u, v in web.ties if (u in free or u == place) and (v in free or v == place)]
    start = min([other for other in free if word[other] == kind])
    path = path_over(ties, start, place)
    return walk_over(word, list(zip(path, path[1:])))


def led(web, crowd, word, other):
    """A walk from word to other."""
    check_web_crowd(web, crowd)
    walk = (check_word(crowd, word),)
    goal = check_word(crowd, other)
    free = grown(web)
    # The places are settled from the last one grown to the first, so
    # those that are still free always hang together.
    while free:
        place = free.pop()
        walk = walk[:-1] + brought(web, walk[-1], free, place, goal[place])
    return walk
