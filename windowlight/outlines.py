"""The outlines of a drawing that breaks none of rules 1 to 10: rows of points' numbers; which share a line."""

from windowlight.rules import neighbours_of
from windowlight.turns import turn, twice_area


def sorted_by_turn(points, middle, ends):
    """The ends in the order in which they lie round the middle, turning to the left."""
    ring = []
    for end in ends:
        place = 0
        while place < len(ring) and turn(points[middle], points[ring[place]], points[end]) > 0:
            place += 1
        ring.insert(place, end)
    return ring


def ring_round(points, middle, ends):
    """All ends round the middle, turning to the left all the way round."""
    # Turns tell an order only within half a round. By rule 4 the higher numbers lie in the half
    # that begins straight to the right, the lower ones in the half that begins straight to the left.
    higher = [end for end in ends if end > middle]
    lower = [end for end in ends if end < middle]
    return sorted_by_turn(points, middle, higher) + sorted_by_turn(points, middle, lower)


def walk_round(rings, first, second):
    """The corners round what lies to the left of the way from the first point to the second."""
    corners = [first]
    last = first
    here = second
    while here != first:
        corners.append(here)
        ring = rings[here]
        # The line next on the right hand, as one looks back, bounds what lies to the left on the way.
        # Index -1 is the ring's end, as it ought to be.
        onward = ring[ring.index(last) - 1]
        last = here
        here = onward
    return corners


def points_at(points, corners):
    return [points[corner] for corner in corners]


def outlines_of(drawing):
    """Each pane's outline, from its least number on."""
    points = drawing.points
    rings = [ring_round(points, k, ends) for k, ends in enumerate(neighbours_of(drawing))]
    walked = {}
    outlines = []
    # From the lowest point on: so each outline is met first at its least number.
    for first, ring in enumerate(rings):
        for second in ring:
            if (first, second) not in walked:
                corners = walk_round(rings, first, second)
                for k, corner in enumerate(corners):
                    walked[(corners[k - 1], corner)] = True
                # The way round the frame from without goes clockwise and is no pane's.
                if twice_area(points_at(points, corners)) > 0:
                    outlines.append(corners)
    return outlines


def panes_by_ways(outlines):
    """The number of the pane to the left of each way along a line, by the points' numbers it goes from and to."""
    panes = {}
    for k, outline in enumerate(outlines):
        last = outline[-1]
        for corner in outline:
            panes[(last, corner)] = k
            last = corner
    return panes


def pairs_beside(outlines):
    """The panes i, j, i below j, that have a line in common, each pair once, by i, then j."""
    panes = panes_by_ways(outlines)
    pairs = {}
    for start, end in panes:
        one = panes[(start, end)]
        # What lies to the right of a way lies to the left of the way back; to the right of the frame lies no pane.
        other = panes.get((end, start))
        if other is not None and one < other:
            pairs[(one, other)] = True
    return sorted(pairs)
