"""Experiments with two states as convex polygons."""

from everydecider.checks import check_two_states, is_ratio
from everydecider.errors import BadCorners
from everydecider.experiments import Experiment
from everydecider.ratios import ascending, common, compare, minus, over, plus, ratio, times
from everydecider.standard import standard

_START = ((0, 1), (0, 1))
_END = ((1, 1), (1, 1))


def corners(e):
    """The lower corners of the polygon of an experiment."""
    check_two_states([e])
    form = standard(e)
    xs, ys = form.rows()
    points = [_START]
    x = 0
    y = 0
    # The signals of the standard form begin with the steepest step.
    for at in reversed(range(form.signals)):
        x += xs[at]
        y += ys[at]
        points.append((ratio(x, form.unit), ratio(y, form.unit)))
    return points


def from_corners(points):
    """The experiment whose signals are the steps between neighbouring points."""
    if len(points) < 2 or not _is_point(points[0]) or points[0] != _START:
        raise BadCorners(0)
    before = None
    for index in range(1, len(points)):
        if not _is_point(points[index]):
            raise BadCorners(index)
        step = _step(points[index - 1], points[index])
        if not _leads_on(step) or (before is not None and not _is_steeper(step, before)):
            raise BadCorners(index)
        before = step
    if points[-1] != _END:
        raise BadCorners(len(points) - 1)
    return _with_steps(points)


def height_at(e, x):
    """The least y of the points of the polygon with this x."""
    return _height(corners(e), x)


def covers(one, other):
    """Tell whether the polygon of the first experiment contains that of the second one."""
    points = corners(one)
    return all([compare(_height(points, x), y) <= 0 for x, y in corners(other)])


def meet(one, other):
    """The best experiment below two others: its polygon is the common part of theirs."""
    lines = (corners(one), corners(other))
    places = ascending([x for points in lines for x, _ in points])
    heights = [[_height(points, x) for x in places] for points in lines]
    places = places + _crossings(places, heights)
    # All corners of the common part are at these places.
    return _with_corners([(x, ascending([_height(points, x) for points in lines])[-1]) for x in places] + [_END])


def join(one, other):
    """The worst experiment above two others: its polygon is the least convex one that contains theirs."""
    return _with_corners(corners(one) + corners(other))


def _is_point(value):
    """Tell whether a value is a tuple of two ratios."""
    return isinstance(value, tuple) and len(value) == 2 and all([is_ratio(number) for number in value])


def _step(point, after):
    """How far it is from one point to another one."""
    return (minus(after[0], point[0]), minus(after[1], point[1]))


def _leads_on(step):
    """Tell whether neither number of a step is below 0, and one is above."""
    signs = [compare(number, (0, 1)) for number in step]
    return min(signs) >= 0 and max(signs) > 0


def _is_steeper(step, before):
    """Tell whether a step is steeper than another one."""
    return compare(times(step[1], before[0]), times(before[1], step[0])) > 0


def _with_steps(points):
    """The experiment whose signals are the steps between neighbouring points."""
    unit, numbers = common([number for point in points for number in point])
    rows = [numbers[::2], numbers[1::2]]
    return Experiment(unit, [[after - before for before, after in zip(row, row[1:])] for row in rows])


def _height(points, x):
    """The height, at an x from 0 to 1, of the line through these corners."""
    for (left, low), (right, high) in zip(points, points[1:]):
        if compare(x, right) <= 0:
            return plus(low, times(over(minus(high, low), minus(right, left)), minus(x, left)))


def _crossings(places, heights):
    """The places between these places at which two lines with these heights cross each other."""
    gaps = [minus(height, other) for height, other in zip(heights[0], heights[1])]
    found = []
    for at in range(1, len(places)):
        before = gaps[at - 1]
        if compare(times(before, gaps[at]), (0, 1)) < 0:
            part = over(before, minus(before, gaps[at]))
            found.append(plus(places[at - 1], times(part, minus(places[at], places[at - 1]))))
    return found


def _with_corners(points):
    """The experiment, in standard form, whose polygon is the least convex one with these points."""
    unit, numbers = common([number for point in points for number in point])
    hull = []
    for point in sorted(list(zip(numbers[::2], numbers[1::2]))):
        while len(hull) > 1 and not _bends_up(hull[-2], hull[-1], point):
            hull.pop()
        hull.append(point)
    return standard(_with_steps([(ratio(x, unit), ratio(y, unit)) for x, y in hull]))


def _bends_up(point, after, last):
    """Tell whether the way over three points is steeper behind the second one than before it."""
    return (after[0] - point[0]) * (last[1] - after[1]) > (after[1] - point[1]) * (last[0] - after[0])
