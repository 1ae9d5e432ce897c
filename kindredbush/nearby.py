"""How far tables are from being good, and the good tables next to them."""

from kindredbush.bars import bar_of, judge_bar
from kindredbush.changes import all_changes, change_of, led_by
from kindredbush.errors import TooGreat
from kindredbush.words import is_tuple_of

FURTHEST = 2


def how_far(table):
    """The least number of changes that lead to a good table."""
    return len(nearest_tables(table)[0][0])


def nearest_tables(table):
    """The list of the pairs (changes, table) of the nearest tables, ascending by the numbers of what is changed."""
    changes = all_changes(table)
    # Each one waits with the number of the change behind its last one, since changes ascend.
    tried = [((), table, 0)]
    for _ in range(FURTHEST + 1):
        good = [(done, here) for done, here, start in tried if bar_of(here) is None]
        if good:
            return good
        tried = [(done + (change,), led_by(here, change), start + number + 1)
                 for done, here, start in tried for number, change in enumerate(changes[start:])]
    raise TooGreat()


def far_paper(table, many):
    """A paper which shows that a table is more than many changes far, or None if it is not."""
    bar = bar_of(table)
    if bar is None:
        return None
    papers = []
    if many > 0:
        for change in changes_in(table, bar):
            paper = far_paper(led_by(table, change), many - 1)
            if paper is None:
                return None
            papers.append(paper)
    return (bar, tuple(papers))


def changes_in(table, bar):
    """The list of the changes of a stem colour and a place colour of a bar, in their order."""
    stems = [stem for stem in table.stems() if stem in bar[1][0::2]]
    places = [place for place in table.places() if place in bar[1][1::2]]
    return [change_of(table, stem, place) for stem in stems for place in places]


def judge_far(table, many, value):
    """Whether a value, which may be anything, is a paper which shows that a table is more than many changes far."""
    if not is_tuple_of(value, 2) or not judge_bar(table, value[0]):
        return False
    bar, papers = value
    if many == 0:
        return papers == ()
    changes = changes_in(table, bar)
    if not is_tuple_of(papers, len(changes)):
        return False
    return all([judge_far(led_by(table, change), many - 1, paper) for change, paper in zip(changes, papers)])
