"""The calls: each answers one list of whole numbers, a refusal's first one below 0."""

from windowlight.judging import judge
from windowlight.lights import are_lights, are_weights, how_far_apart, how_many_lights, is_light
from windowlight.lights import light_through, weighed
from windowlight.outlines import pairs_beside, points_at
from windowlight.shop import first_mark_without_light, mean_light, nearest_glass, nearest_two
from windowlight.shop import pairs_alike, pane_light, seen_light
from windowlight.turns import twice_area

MOST_BYTES = 131072
MOST_LIGHTS = 256


def refusal_of_shop(cartoon, glasses, paintings):
    """The refusal -1 or -6 of a window without a daylight; None if there is none."""
    if not (are_lights(glasses) and are_lights(paintings)):
        return [-1]
    too_many_lights = how_many_lights(glasses) > MOST_LIGHTS or how_many_lights(paintings) > MOST_LIGHTS
    if len(cartoon) > MOST_BYTES or too_many_lights:
        return [-6]
    return None


def refusal_of_rows(cartoon, glasses, paintings, daylight):
    """The refusal -1 or -6 of a window by a daylight; None if there is none."""
    if not is_light(daylight):
        return [-1]
    return refusal_of_shop(cartoon, glasses, paintings)


def refusal_of_cartoon(verdict):
    """The refusal -5; None if there is none."""
    if verdict.fault is None:
        return None
    return [-5, verdict.fault[0], verdict.fault[1]]


def refusal_of_marks(marks, glasses, paintings):
    """The refusal -3; None if there is none."""
    k = first_mark_without_light(marks, glasses, paintings)
    if k is None:
        return None
    return [-3, k]


def refusal_of_window(verdict, glasses, paintings):
    """The refusal -5 or -3; None if there is none."""
    refusal = refusal_of_cartoon(verdict)
    if refusal is not None:
        return refusal
    return refusal_of_marks(verdict.drawing.marks, glasses, paintings)


def refusal_of_search(glasses, wanted):
    """The refusal -1, -6 or -2 of a search among glasses; None if there is none."""
    if not (is_light(wanted) and are_lights(glasses)):
        return [-1]
    if how_many_lights(glasses) > MOST_LIGHTS:
        return [-6]
    if how_many_lights(glasses) == 0:
        return [-2]
    return None


def row_answer(row):
    return [0, len(row)] + row


def pane(i, cartoon, glasses, paintings, daylight):
    """What is seen of pane i by the daylight."""
    refusal = refusal_of_rows(cartoon, glasses, paintings, daylight)
    if refusal is not None:
        return refusal
    verdict = judge(cartoon)
    refusal = refusal_of_cartoon(verdict)
    if refusal is not None:
        return refusal
    marks = verdict.drawing.marks
    if i >= len(marks):
        return [-2]
    refusal = refusal_of_marks(marks, glasses, paintings)
    if refusal is not None:
        return refusal
    return row_answer(seen_light(marks[i], glasses, paintings, daylight))


def all_of(cartoon, glasses, paintings, daylight):
    """The window's light by the daylight."""
    refusal = refusal_of_rows(cartoon, glasses, paintings, daylight)
    if refusal is not None:
        return refusal
    verdict = judge(cartoon)
    refusal = refusal_of_window(verdict, glasses, paintings)
    if refusal is not None:
        return refusal
    drawing = verdict.drawing
    areas = [twice_area(points_at(drawing.points, outline)) for outline in verdict.outlines]
    lights = [seen_light(mark, glasses, paintings, daylight) for mark in drawing.marks]
    return row_answer(mean_light(areas, lights, 2 * drawing.width * drawing.height))


def near(glasses, wanted):
    """The number of the glass that is nearest to the wanted light, and how far apart it is."""
    refusal = refusal_of_search(glasses, wanted)
    if refusal is not None:
        return refusal
    return [0] + nearest_glass(glasses, wanted)


def two(glasses, wanted):
    """The numbers of the two glasses that are nearest to the wanted light, and how far apart they are."""
    refusal = refusal_of_search(glasses, wanted)
    if refusal is not None:
        return refusal
    return [0] + nearest_two(glasses, wanted)


def alike(bound, cartoon, glasses, paintings):
    """The pairs of panes that have a line in common and whose lights are less than the bound apart."""
    refusal = refusal_of_shop(cartoon, glasses, paintings)
    if refusal is not None:
        return refusal
    verdict = judge(cartoon)
    refusal = refusal_of_window(verdict, glasses, paintings)
    if refusal is not None:
        return refusal
    lights = [pane_light(mark, glasses, paintings) for mark in verdict.drawing.marks]
    row = []
    for pair in pairs_alike(bound, pairs_beside(verdict.outlines), lights):
        row.extend(pair)
    return row_answer(row)


def through(one, other):
    """The light through one light and the other."""
    if not (is_light(one) and is_light(other)):
        return [-1]
    return row_answer(light_through(one, other))


def apart(one, other):
    """How far apart the two lights are."""
    if not (is_light(one) and is_light(other)):
        return [-1]
    return [0, how_far_apart(one, other)]


def weigh(weights, light):
    """The light weighed by the weights."""
    if not (are_weights(weights) and is_light(light)):
        return [-1]
    return [0, weighed(weights, light)]
