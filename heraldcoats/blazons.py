"""From a blazon's tokens to the arms, or to the first fault that is met."""

from heraldcoats.bounds import FEWEST_PIECES, FIRST_STRAIGHT_WAY, MOST_LAYERS, MOST_PIECES
from heraldcoats.faults import (CHANGED_OVER_PLAIN, NINTH_LAYER, OTHER_TOKEN, SAME_TINCTURE, WRONG_ARTICLE,
                                WRONG_PIECES, Misread)
from heraldcoats.lexicon import (BY_ROWS, CHARGES, COUNTS, FIRST_COUNT, FIRST_SIZE, LINES, MANNERS, ORDINARIES,
                                 PARTED_WAYS, SIZES, STRAIGHT, TINCTURES, USUAL_SIZE, VARIED_WAYS, article_before,
                                 several)
from heraldcoats.model import Arms, Group, Ordinary, Parted, Plain, Varied
from heraldcoats.tokens import COMMA, END


def take_word(tokens, word):
    token = tokens.take()
    if token.content != word:
        raise Misread(OTHER_TOKEN, token.place)


def pass_word(tokens, word):
    if tokens.peek().content != word:
        return False
    tokens.take()
    return True


# The number of the name that is there, sinister with it where a name goes on so; ahead is what was taken of it before.
def take_name(tokens, names, ahead=""):
    token = tokens.take()
    name = ahead + token.content
    if name not in names:
        raise Misread(OTHER_TOKEN, token.place)
    longer = f"{name} sinister"
    if longer in names and pass_word(tokens, "sinister"):
        name = longer
    return names.index(name)


def take_tincture(tokens):
    return take_name(tokens, list(TINCTURES))


def take_second_tincture(tokens, first):
    take_word(tokens, "and")
    place = tokens.peek().place
    second = take_tincture(tokens)
    if second == first:
        raise Misread(SAME_TINCTURE, place)
    return second


def take_pieces(tokens):
    token = tokens.take()
    if not token.content.isdigit():
        raise Misread(OTHER_TOKEN, token.place)
    pieces = int(token.content)
    if pieces < FEWEST_PIECES or pieces > MOST_PIECES:
        raise Misread(WRONG_PIECES, token.place)
    return pieces


def take_line(tokens):
    if tokens.peek().content in LINES:
        return take_name(tokens, list(LINES))
    return STRAIGHT


def read_parted(tokens, way):
    line = take_line(tokens)
    first = take_tincture(tokens)
    return Parted(way, line, first, take_second_tincture(tokens, first))


def read_varied(tokens):
    way = take_name(tokens, list(VARIED_WAYS))
    take_word(tokens, "of")
    pieces = take_pieces(tokens)
    line = take_line(tokens) if way < FIRST_STRAIGHT_WAY else STRAIGHT
    first = take_tincture(tokens)
    return Varied(way, pieces, line, first, take_second_tincture(tokens, first))


def read_field(tokens):
    name = tokens.peek().content
    if name in TINCTURES:
        return Plain(take_tincture(tokens))
    if name in VARIED_WAYS:
        return read_varied(tokens)
    if name in PARTED_WAYS:
        return read_parted(tokens, take_name(tokens, list(PARTED_WAYS)))
    take_word(tokens, "per")
    return read_parted(tokens, take_name(tokens, list(PARTED_WAYS), "per "))


# The field is that of the arms, below the layer that is filled.
def read_fill(tokens, field):
    token = tokens.peek()
    if token.content != "counterchanged":
        return read_field(tokens)
    if isinstance(field, Plain):
        raise Misread(CHANGED_OVER_PLAIN, token.place)
    tokens.take()
    return None


def take_size(tokens):
    if tokens.peek().content in SIZES:
        return take_name(tokens, list(SIZES)) + FIRST_SIZE
    return USUAL_SIZE


def take_manner(tokens):
    if pass_word(tokens, "in"):
        return take_name(tokens, list(MANNERS), "in ")
    return BY_ROWS


def read_ordinary(tokens, field):
    figure = take_name(tokens, list(ORDINARIES))
    line = take_line(tokens)
    return Ordinary(figure, line, read_fill(tokens, field))


def read_group(tokens, many, names, field):
    size = take_size(tokens)
    charge = take_name(tokens, names)
    manner = take_manner(tokens)
    return Group(charge, many, manner, size, read_fill(tokens, field))


# A wrong article is told only where the word behind it could stand there but for that.
def check_article(article, token):
    if token.content not in SIZES and token.content not in CHARGES:
        raise Misread(OTHER_TOKEN, token.place)
    if article.content != article_before(token.content):
        raise Misread(WRONG_ARTICLE, article.place)


def read_behind_article(tokens, field):
    article = tokens.take()
    token = tokens.peek()
    if article.content == "a" and token.content in ORDINARIES:
        return read_ordinary(tokens, field)
    check_article(article, token)
    return read_group(tokens, 1, list(CHARGES), field)


def read_layer(tokens, field):
    if tokens.peek().content in ("a", "an"):
        return read_behind_article(tokens, field)
    many = take_name(tokens, list(COUNTS)) + FIRST_COUNT
    return read_group(tokens, many, [several(charge) for charge in CHARGES], field)


def read_arms(tokens):
    field = read_field(tokens)
    layers = []
    token = tokens.take()
    while token.content == COMMA:
        if len(layers) == MOST_LAYERS:
            raise Misread(NINTH_LAYER, token.place)
        layers.append(read_layer(tokens, field))
        token = tokens.take()
    if token.content != END:
        raise Misread(OTHER_TOKEN, token.place)
    return Arms(field, layers)
