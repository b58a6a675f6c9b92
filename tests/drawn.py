"""What is drawn by lot for the tests, always the same for one seed; and lists that watch over themselves."""

import random
from functools import lru_cache

from tests import oracle
from tests.cartoons import RUN_LINES, RUN_MARKS, RUN_POINTS, encode, light, random_drawing


class Watched(list):
    """A list that fails as soon as it is changed, be it for a while."""

    def refuse(self, *told, **named):
        raise AssertionError("what was handed in was changed")

    append = clear = extend = insert = pop = remove = reverse = sort = refuse
    __setitem__ = __delitem__ = __iadd__ = __imul__ = refuse


def drawn_bands(source):
    """How a drawing's bands are drawn: anything, few numbers (so that many are as near), or the range's ends."""
    few = [source.randrange(65536) for k in range(2)]
    return source.choice([
        lambda: source.randrange(65536),
        lambda: source.randrange(3),
        lambda: source.choice(few),
        lambda: source.choice([0, 65535]),
        lambda: source.choice([0, 1, 32767, 32768, 65534, 65535]),
    ])


def drawn_lights(source, how_many):
    """So many lights; in some drawings all bands of a light are the same."""
    band = drawn_bands(source)
    level = source.randrange(3) == 0
    return [light(band()) if level else [band() for k in range(32)] for j in range(how_many)]


def in_one_list(lights):
    return [band for own in lights for band in own]


@lru_cache(maxsize=None)
def drawings():
    """Drawings of all kinds that keep every rule: width, height, points, lines, marks of 3 glasses, 2 paintings."""
    drawn = [random_drawing(seed) for seed in range(60)]
    run = (30, 20, RUN_POINTS, RUN_LINES, RUN_MARKS)
    return [run] + [drawing for drawing in drawn if oracle.judge(encode(*drawing)) is None]
