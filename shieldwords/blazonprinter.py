"""Blazons printed in their one form: one blank between words, a comma right behind what it ends."""

from shieldwords.arms import PARTED, PLAIN, OrdinaryLayer
from shieldwords.words import COUNTERCHANGED, COUNTS, LINES, MANNERS, ORDINARIES, OTHER_WAYS, PER_WAYS
from shieldwords.words import SIZES, TINCTURES, VARIED_WAYS, article_before, charge_words


def said(words):
    return [word for word in words if word is not None]


def two_tinctures(field):
    return [TINCTURES[field.first], "and", TINCTURES[field.second]]


def parted_way(way):
    if way < len(PER_WAYS):
        return "per " + PER_WAYS[way]
    return OTHER_WAYS[way - len(PER_WAYS)]


def field_words(field):
    if field.kind == PLAIN:
        return [TINCTURES[field.first]]
    if field.kind == PARTED:
        return said([parted_way(field.way), LINES[field.line]]) + two_tinctures(field)
    way = [VARIED_WAYS[field.way], "of", str(field.pieces), LINES[field.line]]
    return said(way) + two_tinctures(field)


def fill_words(fill):
    if fill is None:
        return [COUNTERCHANGED]
    return field_words(fill)


def ordinary_words(layer):
    return said(["a", ORDINARIES[layer.ordinary], LINES[layer.line]]) + fill_words(layer.fill)


def manner_words(manner):
    if MANNERS[manner] is None:
        return []
    return ["in", MANNERS[manner]]


def group_words(group):
    charge = charge_words(group.how_many)[group.charge]
    charged = said([SIZES[group.size], charge])
    if group.how_many == 1:
        how_many = article_before(charged[0])
    else:
        how_many = COUNTS[group.how_many]
    return [how_many] + charged + manner_words(group.manner) + fill_words(group.fill)


def layer_words(layer):
    if isinstance(layer, OrdinaryLayer):
        return ordinary_words(layer)
    return group_words(layer)


def arms_blazon(arms):
    parts = [" ".join(field_words(arms.field))]
    for layer in arms.layers:
        parts.append(" ".join(layer_words(layer)))
    return ", ".join(parts)


def blazon_bytes(arms):
    return [ord(sign) for sign in arms_blazon(arms)]
