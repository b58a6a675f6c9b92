"""A shop's lights: what goes with a cartoon, panes' lights, the window's light, nearest glasses, panes alike."""

from windowlight.lights import BANDS, how_far_apart, how_many_lights, light_at, light_through, lights_of


def first_mark_without_light(marks, glasses, paintings):
    """The number of the first mark that does not go with the shop; None if all do."""
    for k, mark in enumerate(marks):
        if mark[2] >= how_many_lights(glasses) or mark[3] > how_many_lights(paintings):
            return k
    return None


def pane_light(mark, glasses, paintings):
    """The light of the mark's pane: its glass and, if there is one, its painting."""
    glass = light_at(glasses, mark[2])
    if mark[3] == 0:
        return glass
    return light_through(glass, light_at(paintings, mark[3] - 1))


def seen_light(mark, glasses, paintings, daylight):
    return light_through(daylight, pane_light(mark, glasses, paintings))


def mean_light(areas, lights, whole):
    """Band by band the sum of each area times its light, divided by the whole, rounded down."""
    totals = [0] * BANDS
    for area, light in zip(areas, lights):
        totals = [total + area * band for total, band in zip(totals, light)]
    return [total // whole for total in totals]


def nearest_glass(glasses, wanted):
    """The number of the glass that is nearest to the wanted light, and how far apart it is; there is a glass."""
    nearest = None
    for k, glass in enumerate(lights_of(glasses)):
        distance = how_far_apart(glass, wanted)
        # One that is only as near does not take the place: so the lowest number keeps it.
        if nearest is None or distance < nearest[1]:
            nearest = [k, distance]
    return nearest


def nearest_two(glasses, wanted):
    """The numbers of the two glasses that are nearest to the wanted light, and how far apart; there is a glass."""
    lights = lights_of(glasses)
    nearest = None
    for i, one in enumerate(lights):
        # Light through two is the same either way round, and one glass may be taken twice.
        for j in range(i, len(lights)):
            distance = how_far_apart(light_through(one, lights[j]), wanted)
            # One that is only as near does not take the place: so the lowest i, then j, keeps it.
            if nearest is None or distance < nearest[2]:
                nearest = [i, j, distance]
    return nearest


def pairs_alike(bound, pairs, lights):
    """Of the pairs of panes those whose lights are less than the bound apart."""
    return [pair for pair in pairs if how_far_apart(lights[pair[0]], lights[pair[1]]) < bound]
