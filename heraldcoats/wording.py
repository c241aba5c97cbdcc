"""From a coat to its words, in their one form."""

from heraldcoats.lexicon import (CHARGES, COUNTS, FIRST_COUNT, FIRST_SIZE, LINES, MANNERS, ORDINARIES, PARTED_WAYS,
                                 SIZES, TINCTURES, VARIED_WAYS, article_before, several)
from heraldcoats.model import Impaled, Marked, Ordinary, Parted, Plain, Quarterly
from heraldcoats.nesting import coats_in


def joined(phrases):
    return " ".join([phrase for phrase in phrases if phrase != ""])


def field_words(field):
    if isinstance(field, Plain):
        return TINCTURES[field.tincture]
    behind = [LINES[field.line], TINCTURES[field.first], "and", TINCTURES[field.second]]
    if isinstance(field, Parted):
        return joined([PARTED_WAYS[field.way]] + behind)
    return joined([VARIED_WAYS[field.way], "of", str(field.pieces)] + behind)


def fill_words(fill):
    return "counterchanged" if fill is None else field_words(fill)


def charges_words(group):
    size = SIZES[group.size - FIRST_SIZE]
    charge = CHARGES[group.charge]
    if group.many > 1:
        return joined([COUNTS[group.many - FIRST_COUNT], size, several(charge)])
    single = joined([size, charge])
    return joined([article_before(single), single])


def layer_words(layer):
    if isinstance(layer, Ordinary):
        return joined(["a", ORDINARIES[layer.figure], LINES[layer.line], fill_words(layer.fill)])
    return joined([charges_words(layer), MANNERS[layer.manner], fill_words(layer.fill)])


def arms_words(arms):
    blazon = ", ".join([field_words(arms.field)] + [layer_words(layer) for layer in arms.layers])
    return f"({blazon})"


def marked_words(marked):
    phrases = [arms_words(marked.arms)]
    if marked.canton is not None:
        phrases.append("augmented")
        phrases.append(arms_words(marked.canton))
    if len(marked.marks) > 0:
        phrases.append("marked")
    for mark in marked.marks:
        phrases.append(str(mark.g) + "." + str(mark.k))
    return joined(phrases)


def kind_word(coat):
    if isinstance(coat, Quarterly):
        return "quarterly"
    if isinstance(coat, Impaled):
        return "impaled"
    return "pretence"


def coat_words(coat):
    if isinstance(coat, Marked):
        return marked_words(coat)
    head = kind_word(coat)
    inner = "; ".join([coat_words(within) for within in coats_in(coat)])
    return f"{head} [{inner}]"
