"""Blazons read strictly, from the left: the arms that they tell, or their first fault."""

from shieldwords.arms import CHEQUY, LEAST_PIECES, LOZENGY, MOST_LAYERS, MOST_PIECES
from shieldwords.arms import PARTED, PLAIN, VARIED, Arms, Field, GroupLayer, OrdinaryLayer
from shieldwords.blazontokens import COMMA, BlazonFault, TokenReader
from shieldwords.words import CHARGES, COUNTERCHANGED, COUNTS, LINES, MANNERS, ORDINARIES, OTHER_WAYS, PER_WAYS
from shieldwords.words import PLAIN_SIZE, SINISTER, SIZES, TINCTURES, VARIED_WAYS, article_before, charge_words

PIECES_OUT_OF_BOUNDS = 4
SAME_TINCTURE = 5
COUNTERCHANGED_OVER_PLAIN = 6
WRONG_ARTICLE = 7
NINTH_LAYER = 8


# The number of the name that stands there, of which some go on with a second word.
def take_name(reader, names):
    if not reader.sees_one_of(names):
        reader.refuse()
    word = reader.accept().text
    longer = word + " " + SINISTER
    if longer in names and reader.sees(SINISTER):
        reader.accept()
        return names.index(longer)
    return names.index(word)


# The number of a name that may be left out, and what it is then.
def take_name_if_there(reader, names, otherwise):
    if reader.sees_one_of(names):
        return take_name(reader, names)
    return otherwise


def take_line(reader):
    return take_name_if_there(reader, LINES, 0)


def take_two_tinctures(reader):
    first = take_name(reader, TINCTURES)
    reader.accept_text("and")
    place = reader.peek().place
    second = take_name(reader, TINCTURES)
    if second == first:
        raise BlazonFault(SAME_TINCTURE, place)
    return (first, second)


def take_pieces(reader):
    reader.accept_text("of")
    token = reader.accept_number()
    pieces = int(token.text)
    if pieces < LEAST_PIECES or pieces > MOST_PIECES:
        raise BlazonFault(PIECES_OUT_OF_BOUNDS, token.place)
    return pieces


def take_plain(reader):
    tincture = take_name(reader, TINCTURES)
    return Field(PLAIN, 0, 0, 0, tincture, tincture)


def take_parted_way(reader):
    if reader.sees("per"):
        reader.accept()
        return take_name(reader, PER_WAYS)
    return len(PER_WAYS) + take_name(reader, OTHER_WAYS)


def take_parted(reader):
    way = take_parted_way(reader)
    line = take_line(reader)
    pair = take_two_tinctures(reader)
    return Field(PARTED, way, 0, line, pair[0], pair[1])


def take_varied(reader):
    way = take_name(reader, VARIED_WAYS)
    pieces = take_pieces(reader)
    line = 0
    if way != CHEQUY and way != LOZENGY:
        line = take_line(reader)
    pair = take_two_tinctures(reader)
    return Field(VARIED, way, pieces, line, pair[0], pair[1])


def take_field(reader):
    if reader.sees_one_of(TINCTURES):
        return take_plain(reader)
    if reader.sees_one_of(VARIED_WAYS):
        return take_varied(reader)
    if reader.sees("per") or reader.sees_one_of(OTHER_WAYS):
        return take_parted(reader)
    return reader.refuse()


def take_fill(reader, arms_field):
    if not reader.sees(COUNTERCHANGED):
        return take_field(reader)
    token = reader.accept()
    if arms_field.kind == PLAIN:
        raise BlazonFault(COUNTERCHANGED_OVER_PLAIN, token.place)
    return None


def take_ordinary(reader, arms_field):
    ordinary = take_name(reader, ORDINARIES)
    line = take_line(reader)
    fill = take_fill(reader, arms_field)
    return OrdinaryLayer(ordinary, line, fill)


def take_manner(reader):
    if not reader.sees("in"):
        return 0
    reader.accept()
    return take_name(reader, MANNERS)


def take_group(reader, how_many, arms_field):
    size = take_name_if_there(reader, SIZES, PLAIN_SIZE)
    charge = take_name(reader, charge_words(how_many))
    manner = take_manner(reader)
    fill = take_fill(reader, arms_field)
    return GroupLayer(charge, how_many, manner, size, fill)


# An ordinary stands behind a alone; what else is behind a or an is told first if it can't be there at all.
def take_one(reader, arms_field):
    article = reader.accept()
    if article.text == "a" and reader.sees_one_of(ORDINARIES):
        return take_ordinary(reader, arms_field)
    if not reader.sees_one_of(SIZES) and not reader.sees_one_of(CHARGES):
        reader.refuse()
    if article.text != article_before(reader.peek().text):
        raise BlazonFault(WRONG_ARTICLE, article.place)
    return take_group(reader, 1, arms_field)


def take_layer(reader, arms_field):
    if reader.sees("a") or reader.sees("an"):
        return take_one(reader, arms_field)
    how_many = take_name(reader, COUNTS)
    return take_group(reader, how_many, arms_field)


def read_blazon(data):
    reader = TokenReader(data)
    field = take_field(reader)
    layers = []
    while not reader.sees(""):
        comma = reader.accept_text(COMMA)
        if len(layers) == MOST_LAYERS:
            raise BlazonFault(NINTH_LAYER, comma.place)
        layers.append(take_layer(reader, field))
    return Arms(field, layers)
