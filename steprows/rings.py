"""Whether a full run on a ring stands, has classes, or neither."""

from steprows.checks import check_crowd, upper_pairs
from steprows.classes import Classes, lean_between, ring_steps
from steprows.crowds import Crowd
from steprows.errors import BadNumber, BadTable, NotLoose, NotRoomy, Unfit
from steprows.lots import all_partings
from steprows.ratios import Ratio
from steprows.shapes import is_loose
from steprows.standing import check_full, stands


def fits_at(run, classes, step, a, b):
    """True if the rates of the two kinds at the step are as the classes tell."""
    p, r = step
    ahead = run.rate(p, r, a, b)
    back = run.rate(p, r, b, a)
    if classes.class_of(a) == classes.class_of(b):
        return ahead == back * classes.ratios[a][b]
    return back - ahead == lean_between(classes, a, b)


def has_classes(run, classes):
    """True if the run on a ring has these classes."""
    return all([
        fits_at(run, classes, step, a, b) for step in ring_steps(run.web) for a, b in upper_pairs(run.kinds)
    ])


def classes_by(run, crowd, parting):
    """The Classes object with this parting that the run has; None if there is none."""
    p, r = ring_steps(run.web)[0]
    span = range(run.kinds)
    ratios = [[Ratio(1)] * run.kinds for kind in span]
    for lot in parting:
        for a in lot:
            for b in [kind for kind in lot if kind != a]:
                ratios[a][b] = run.rate(p, r, a, b).over(run.rate(p, r, b, a))
    leans = [run.lean(p, r, 0, lot[0]) for lot in parting]
    # One step tells what the classes would have to be; if they are none,
    # or another step tells otherwise, there are none.
    try:
        classes = Classes(crowd, parting, leans, ratios)
    except (BadNumber, BadTable):
        return None
    if has_classes(run, classes):
        return classes
    return None


def check_roomy_ring(run, crowd):
    """Raises the first error among the premises of classes_of and ring_word."""
    check_crowd(run, crowd)
    check_full(run)
    ring_steps(run.web)
    if not is_loose(run.web):
        raise NotLoose()
    if not crowd.roomy:
        raise NotRoomy()


def classes_of(run, crowd):
    """The Classes object whose classes the run has; None if it has none."""
    check_roomy_ring(run, crowd)
    for parting in all_partings(run.kinds)[1:]:
        classes = classes_by(run, crowd, parting)
        if classes is not None:
            return classes
    return None


def ring_word(run, crowd):
    """The word for the run: "stands", "classes" or "neither"."""
    check_roomy_ring(run, crowd)
    if stands(run, crowd):
        return "stands"
    if classes_of(run, crowd) is not None:
        return "classes"
    return "neither"


def quad_products(run):
    """The word and the four products for two kinds on a ring of four; None if the lasting shares are not local."""
    if run.web.size != 4 or run.kinds != 2:
        raise Unfit()
    check_full(run)
    steps = ring_steps(run.web)
    a = [run.rate(p, r, 1, 0) for p, r in steps]
    b = [run.rate(p, r, 0, 1) for p, r in steps]
    if stands(run, Crowd((2, 2))):
        return ("stands", tuple([back.over(ahead) for ahead, back in zip(a, b)]))
    # The sums at two opposite steps are the same for one positive t alone;
    # what is left to ask is whether the sums at two neighbours are.
    t = tuple([(b[i] + a[i - 2]).over(a[i] + b[i - 2]) for i in range(4)])
    sums = [(t[i] * a[i] - b[i]) * (t[i].inverse() + 1) for i in range(2)]
    if sums[0] == sums[1]:
        return ("level", t)
    return None
