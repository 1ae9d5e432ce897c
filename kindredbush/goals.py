"""What is due to a goal, and what is wasted on the way to it."""

from kindredbush.bags import places_of
from kindredbush.coins import due
from kindredbush.groves import check_alike
from kindredbush.scripts import price, steps


def dues_after(f, g, script):
    """The list of what is due to a grove at the beginning and behind each deed of a script."""
    check_alike(f, g)
    return [due(grove, g) for grove in steps(f, script)]


def wasted(f, g, script):
    """The coins that a script costs, less what is due ahead of it, plus what is due behind it."""
    dues = dues_after(f, g, script)
    return price(script) - dues[0] + dues[-1]


def barred_nails(f, g, places):
    """The list of those of some places, in the order of places, at which two groves have different joints."""
    check_alike(f, g)
    return [place for place in places_of(f.bag(), f.roots())
            if place in places and f.joint(place) != g.joint(place)]
