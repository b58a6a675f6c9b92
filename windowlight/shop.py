"""A shop's lights on a cartoon: what goes with what, panes' lights, the window's light."""

from windowlight.lights import BANDS, how_many_lights, light_at, light_through


def first_mark_without_light(marks, glasses, paintings):
    """The number of the first mark that does not go with the shop; None if all do."""
    for k, mark in enumerate(marks):
        if mark[2] >= how_many_lights(glasses) or mark[3] > how_many_lights(paintings):
            return k
    return None


def pane_light(mark, glasses, paintings):
    """The light of the mark's pane: its glass and, if there is one, its painting."""
    glass = light_at(glasses, mark[2])
    if mark[3] == 0:
        return glass
    return light_through(glass, light_at(paintings, mark[3] - 1))


def seen_light(mark, glasses, paintings, daylight):
    return light_through(daylight, pane_light(mark, glasses, paintings))


def mean_light(areas, lights, whole):
    """Band by band the sum of each area times its light, divided by the whole, rounded down."""
    totals = [0] * BANDS
    for area, light in zip(areas, lights):
        totals = [total + area * band for total, band in zip(totals, light)]
    return [total // whole for total in totals]
