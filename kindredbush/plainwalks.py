"""What scripts lead to, found by going through all of it, whatever the table is."""

from kindredbush.assemblies import grove_of
from kindredbush.deeds import all_deeds
from kindredbush.errors import TooGreat
from kindredbush.groves import check_alike
from kindredbush.standings import Standing, coins_of

MOST_GROVES = 500


def within(f, most):
    """The list of the pairs (grove, coins) of all groves within most coins of a grove."""
    found = spread(f, most, None, MOST_GROVES)
    return [(found[key][1], coins) for coins, key in by_coins(found)]


def reached(f):
    """The list of all groves to which scripts lead from a grove."""
    found = spread(f, None, None, MOST_GROVES)
    return [found[key][1] for coins, key in by_coins(found)]


def fewest_by_walks(f, g, most):
    """The least price, up to most, of a script from a grove to another one, or None."""
    coins, script = cheapest(f, g, most)
    return coins


def walk_by_walks(f, g, most):
    """A script of the least price, up to most, from a grove to another one, or None."""
    coins, script = cheapest(f, g, most)
    return script


def cheapest(f, g, most):
    """The pair of the least price, up to most, of a script to another grove, and such a script; or of None twice."""
    check_alike(f, g)
    goal = key_of(g.bag(), Standing(g.rows()))
    found = spread(f, most, goal, None)
    if goal not in found:
        return (None, None)
    coins, grove, script = found[goal]
    return (coins, script)


def by_coins(found):
    """The pairs (coins, key) of what spread has found, ascending."""
    return sorted([(found[key][0], key) for key in found])


def key_of(bag, standing):
    """The tuple of the numbers, in the bag, of the joints at all places."""
    numbers = {name: number for number, name in enumerate(bag.names())}
    return tuple([numbers[name] for place, name in standing.rows()])


def spread(f, most, goal, limit):
    """The triples (coins, grove, script) of the groves within most coins of a grove, in a dict by their keys.

    It goes on until there are no more if most is None, and not beyond the coins at which the
    goal, a key, is found. It raises TooGreat if it finds more than limit, if this is not None.
    """
    found = {}
    ready = [(Standing(f.rows()), [])]
    soon = []
    coins = 0
    while (ready or soon) and (most is None or coins <= most):
        fresh = added(f, ready, coins, found)
        if limit is not None and len(found) > limit:
            raise TooGreat()
        if goal in found:
            return found
        ones, twos = [], []
        if coins != most:
            ones, twos = led_on(f, fresh, found)
        ready = soon + ones
        soon = twos
        coins += 1
    return found


def added(f, ready, coins, found):
    """Add to found what is new among the pairs (standing, script), and return the keys of it."""
    fresh = []
    for standing, script in ready:
        key = key_of(f.bag(), standing)
        if key not in found:
            found[key] = (coins, grove_of(f.bag(), f.roots(), standing.holders()), script)
            fresh.append(key)
    return fresh


def led_on(f, fresh, found):
    """The pairs (standing, script) to which deeds of one coin, and of two, lead from what is fresh."""
    ones, twos = [], []
    for key in fresh:
        coins, grove, script = found[key]
        standing = Standing(grove.rows())
        for deed in all_deeds(grove):
            after = standing.after(deed)
            if key_of(f.bag(), after) not in found:
                if coins_of(deed) == 1:
                    ones.append((after, script + [deed]))
                else:
                    twos.append((after, script + [deed]))
    return (ones, twos)
