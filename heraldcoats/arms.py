"""The tincture that arms have at a point of the shield."""

from heraldcoats.fields import counterchanged_tincture, field_tincture
from heraldcoats.groups import group_has
from heraldcoats.model import Ordinary
from heraldcoats.ordinaries import ordinary_has


def layer_has(layer, p, r):
    if isinstance(layer, Ordinary):
        return ordinary_has(layer.figure, layer.line, p, r)
    return group_has(layer, p, r)


def layer_tincture(layer, field, p, r):
    if layer.fill is None:
        return counterchanged_tincture(field, p, r)
    return field_tincture(layer.fill, p, r)


def arms_tincture(arms, p, r):
    for layer in reversed(arms.layers):
        if layer_has(layer, p, r):
            return layer_tincture(layer, arms.field, p, r)
    return field_tincture(arms.field, p, r)
