"""From a coat to its bytes."""

from heraldcoats.model import Impaled, Marked, Ordinary, Parted, Plain, Quarterly
from heraldcoats.nesting import coats_in


def field_bytes(field):
    if isinstance(field, Plain):
        return [0, field.tincture]
    if isinstance(field, Parted):
        return [1, field.way, field.line, field.first, field.second]
    return [2, field.way, field.pieces, field.line, field.first, field.second]


def fill_bytes(fill):
    return [1] if fill is None else [0] + field_bytes(fill)


def layer_bytes(layer):
    if isinstance(layer, Ordinary):
        return [0, layer.figure, layer.line] + fill_bytes(layer.fill)
    return [1, layer.charge, layer.many, layer.manner, layer.size] + fill_bytes(layer.fill)


def arms_bytes(arms):
    numbers = field_bytes(arms.field) + [len(arms.layers)]
    for layer in arms.layers:
        numbers.extend(layer_bytes(layer))
    return numbers


def canton_bytes(canton):
    return [0] if canton is None else [1] + arms_bytes(canton)


def marked_bytes(marked):
    numbers = [0] + arms_bytes(marked.arms) + canton_bytes(marked.canton) + [len(marked.marks)]
    for mark in marked.marks:
        numbers.extend([mark.g, mark.k])
    return numbers


def head_bytes(coat):
    if isinstance(coat, Quarterly):
        return [1, len(coat.coats)]
    return [2] if isinstance(coat, Impaled) else [3]


def coat_bytes(coat):
    if isinstance(coat, Marked):
        return marked_bytes(coat)
    numbers = head_bytes(coat)
    for inner in coats_in(coat):
        numbers.extend(coat_bytes(inner))
    return numbers
