"""Bags and groves as texts."""

from kindredbush.bags import Bag
from kindredbush.groves import Grove
from kindredbush.lexemes import Reader, name_list, written


def bag_text(bag):
    """The written text of a bag."""
    parts = ["bag", "{"]
    for name, stem, branches in bag.joints():
        parts.extend(["joint", name, stem] + name_list(branches) + [";"])
    return written(parts + ["}"])


def grove_text(grove):
    """The written text of a grove."""
    parts = ["grove"] + name_list(grove.roots()) + ["{"]
    for bush in grove.bushes():
        parts.extend([bush_text(bush), ";"])
    return written(parts + ["}"])


def bush_text(bush):
    """The written text of a bush, which has no blank ahead of a (."""
    if len(bush) == 1:
        return bush[0]
    return bush[0] + "(" + ", ".join([bush_text(part) for part in bush[1:]]) + ")"


def read_bag(table, text):
    """The bag over a table that a text tells."""
    reader = Reader(text)
    reader.take("bag")
    reader.take("{")
    joints = []
    while not reader.is_next("}"):
        reader.take("joint")
        joints.append(taken_joint(reader))
        reader.take(";")
    reader.take("}")
    reader.finish()
    return Bag(table, joints)


def taken_joint(reader):
    """Take the name, the stem colour and the colours of the branches of a joint, and return the joint."""
    name = reader.take_name()
    stem = reader.take_name()
    return (name, stem, tuple(reader.take_names()))


def read_grove(bag, text):
    """The grove of a bag that a text tells."""
    reader = Reader(text)
    reader.take("grove")
    roots = reader.take_names()
    bushes = taken_bushes(reader)
    reader.finish()
    return Grove(bag, roots, bushes)


def taken_bushes(reader):
    """Take bushes in braces, each with a semicolon behind it, from a reader, and return the list of them."""
    reader.take("{")
    bushes = []
    while not reader.is_next("}"):
        bushes.append(taken_bush(reader))
        reader.take(";")
    reader.take("}")
    return bushes


def taken_bush(reader):
    """Take a bush from a reader, and return it."""
    bush = (reader.take_name(),)
    if not reader.is_next("("):
        return bush
    reader.take("(")
    bush = bush + (taken_bush(reader),)
    while not reader.is_next(")"):
        reader.take(",")
        bush = bush + (taken_bush(reader),)
    reader.take(")")
    return bush
