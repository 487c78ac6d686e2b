"""Shapes of webs: rows, rings, joins, trees, stars, loose webs, and rounds."""

from steprows.webs import labels_of, merged, near_over


def shape(web):
    """The shape of the web: "row", "ring" or "threefold"."""
    if web.along is None:
        return "threefold"
    if is_tree(web):
        return "row"
    return "ring"


def non_ties(web):
    """The pairs of places that are not tied, in order."""
    return tuple([(u, v) for u in range(web.size) for v in range(u + 1, web.size) if (u, v) not in web])


def parts_over(size, ties):
    """The parts into which the places fall if two places are joined by each of the ties."""
    labels = labels_of(size, ties)
    return tuple([
        tuple([place for place in range(size) if labels[place] == least])
        for least in range(size) if labels[least] == least
    ])


def pieces(web):
    """The connected parts of the graph of the non-ties."""
    return parts_over(web.size, non_ties(web))


def is_join(web):
    """True if there are two pieces or more."""
    return len(pieces(web)) > 1


def is_tree(web):
    """True if there is just one way between any two places."""
    return len(web.ties) == web.size - 1


def is_star(web):
    """True for a tree in which one place is near all others."""
    return is_tree(web) and max([len(web.near(place)) for place in range(web.size)]) == web.size - 1


def is_loose(web):
    """True if each tie has two more places as loose_by tells them."""
    return all([loose_by(web, u, v) is not None for u, v in web.ties])


def loose_by(web, u, v):
    """Two more places w, t such that w and v, u and t, w and t are not tied; None if there are none."""
    web.number_of(u, v)
    others = [place for place in range(web.size) if place not in (u, v)]
    for w in others:
        for t in others:
            if w != t and (w, v) not in web and (u, t) not in web and (w, t) not in web:
                return (w, t)
    return None


def tree_ties(web):
    """The ties of the spanning tree, in order."""
    labels = list(range(web.size))
    tree = []
    for u, v in web.ties:
        if labels[u] != labels[v]:
            tree.append((u, v))
            labels = merged(labels, u, v)
    return tree


def path_over(ties, start, end):
    """The places on a shortest way over the ties from start to end, where there is one."""
    paths = {start: (start,)}
    waiting = [start]
    while end not in paths:
        place = waiting.pop(0)
        for after in near_over(ties, place):
            if after not in paths:
                paths[after] = paths[place] + (after,)
                waiting.append(after)
    return paths[end]


def rounds(web):
    """For each tie outside of the spanning tree the ring of places that it closes there."""
    tree = tree_ties(web)
    return tuple([(u,) + path_over(tree, v, u)[:-1] for u, v in web.ties if (u, v) not in tree])
