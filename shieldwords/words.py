"""The words of blazons, each list in the order of its table; None stands where nothing is said."""

TINCTURES = ("or", "argent", "gules", "azure", "sable", "vert", "purpure", "ermine", "vair")
LINES = (None, "wavy", "embattled", "indented", "engrailed", "invected")

# Parted in the ways with "per" ahead, then those without it, behind them in the same table.
PER_WAYS = ("pale", "fess", "bend", "bend sinister", "chevron", "saltire")
OTHER_WAYS = ("quarterly", "gyronny")
VARIED_WAYS = ("barry", "paly", "bendy", "bendy sinister", "chevronny", "chequy", "lozengy")

ORDINARIES = (
    "chief", "base", "pale", "fess", "bend", "bend sinister", "chevron",
    "cross", "saltire", "pile", "bordure", "canton", "quarter",
)
CHARGES = (
    "roundel", "annulet", "lozenge", "mascle", "fusil", "billet", "mullet", "crescent",
    "increscent", "crosslet", "saltorel", "escutcheon", "tower", "sword", "wheel", "arrow",
)

# How many charges: none has no word, and one is told by a or an.
COUNTS = (None, None, "two", "three", "four", "five", "six", "seven", "eight", "nine", "ten")
SIZES = (None, "small", "lesser", None, "great")
PLAIN_SIZE = 3
MANNERS = (None, "fess", "pale", "bend", "bend sinister", "chief", "base")

SINISTER = "sinister"
COUNTERCHANGED = "counterchanged"


def article_before(word):
    if word[0] in "aeiou":
        return "an"
    return "a"


def charge_words(how_many):
    if how_many == 1:
        return list(CHARGES)
    return [word + "s" for word in CHARGES]
