"""The document's grammar of blazons in its own words, and what it says of a text.

The grammar below is the document's text as it stands, read by a small reader of its own, so that the program is held
against the words and not against itself.
"""

import re

GRAMMAR = """
blazon = field {',' layer}
field  = tincture
       | 'per' way [line] tincture 'and' tincture
       | ('quarterly' | 'gyronny') [line] tincture 'and' tincture
       | ('barry' | 'paly' | 'bendy' ['sinister'] | 'chevronny') 'of' number [line] tincture 'and' tincture
       | ('chequy' | 'lozengy') 'of' number tincture 'and' tincture
way    = 'pale' | 'fess' | 'bend' ['sinister'] | 'chevron' | 'saltire'
layer  = 'a' ordinary [line] fill | one [size] single [manner] fill | count [size] several [manner] fill
one    = 'a' | 'an'
count  = 'two' | 'three' | 'four' | 'five' | 'six' | 'seven' | 'eight' | 'nine' | 'ten'
size   = 'small' | 'lesser' | 'great'
manner = 'in' ('fess' | 'pale' | 'bend' ['sinister'] | 'chief' | 'base')
fill   = 'counterchanged' | field
"""

TINCTURES = "or argent gules azure sable vert purpure ermine vair".split()
LINES = "straight wavy embattled indented engrailed invected".split()
ORDINARIES = [
    "chief", "base", "pale", "fess", "bend", "bend sinister", "chevron", "cross", "saltire", "pile", "bordure",
    "canton", "quarter",
]
SINGLE = (
    "roundel annulet lozenge mascle fusil billet mullet crescent increscent crosslet saltorel escutcheon tower sword "
    "wheel arrow"
).split()
SEVERAL = [word + "s" for word in SINGLE]
PARTED = [
    "per pale", "per fess", "per bend", "per bend sinister", "per chevron", "per saltire", "quarterly", "gyronny",
]
VARIED = ["barry", "paly", "bendy", "bendy sinister", "chevronny", "chequy", "lozengy"]
COUNTS = "none one two three four five six seven eight nine ten".split()
SIZES = {1: "small ", 2: "lesser ", 3: "", 4: "great "}
MANNERS = ["", "in fess ", "in pale ", "in bend ", "in bend sinister ", "in chief ", "in base "]

# What the grammar leaves to the lists below it.
LISTS = {
    "tincture": TINCTURES, "line": LINES[1:], "ordinary": ORDINARIES, "single": SINGLE, "several": SEVERAL,
}
ALL_WORDS = sorted(
    set(re.findall(r"[a-z]+", " ".join(re.findall(r"'([a-z]+)'", GRAMMAR))))
    | {word for words in LISTS.values() for name in words for word in name.split()}
)


class Rules:
    """The grammar's rows, each turned into choices of rows of parts."""

    def __init__(self):
        text = re.sub(r"\n +", " ", GRAMMAR.strip())
        self.rules = {}
        for row in text.split("\n"):
            name, body = row.split("=", 1)
            self.signs = re.findall(r"'[^']*'|[a-z]+|[\[\](){}|]", body)
            self.rules[name.strip()] = self.choice()
        for name, words in LISTS.items():
            self.rules[name] = ("choice", [("row", [("word", part) for part in word.split()]) for word in words])

    def choice(self):
        rows = [self.row()]
        while self.signs and self.signs[0] == "|":
            self.signs.pop(0)
            rows.append(self.row())
        return ("choice", rows)

    def row(self):
        parts = []
        while self.signs and self.signs[0] not in ("|", ")", "]", "}"):
            parts.append(self.part(self.signs.pop(0)))
        return ("row", parts)

    def part(self, sign):
        kinds = {"(": "once", "[": "maybe", "{": "many"}
        if sign in kinds:
            inner = self.choice()
            self.signs.pop(0)
            return (kinds[sign], inner)
        return ("word", sign[1:-1]) if sign[0] == "'" else ("rule", sign)

    def ends(self, node, tokens, start):
        """Up to where the tokens from the start on can be this, as a set; `reached` is as far as any came."""
        kind, what = node
        self.reached = max(self.reached, start)
        if kind == "word":
            return {start + 1} if start < len(tokens) and tokens[start].text == what else set()
        if kind == "rule" and what == "number":
            return {start + 1} if start < len(tokens) and tokens[start].kind == "number" else set()
        if kind == "rule":
            return self.ends(self.rules[what], tokens, start)
        if kind == "choice":
            return set().union(*(self.ends(row, tokens, start) for row in what))
        if kind == "once":
            return self.ends(what, tokens, start)
        if kind == "maybe":
            return {start} | self.ends(what, tokens, start)
        if kind == "row":
            return self.ends_of_row(what, tokens, start)
        return self.ends_of_many(what, tokens, start)

    def ends_of_row(self, parts, tokens, start):
        places = {start}
        for part in parts:
            places = set().union(*(self.ends(part, tokens, place) for place in places))
        self.reached = max([self.reached] + list(places))
        return places

    def ends_of_many(self, what, tokens, start):
        places, fresh = {start}, {start}
        while fresh:
            fresh = set().union(*(self.ends(what, tokens, place) for place in fresh)) - places
            places |= fresh
        return places

    def accepted(self, tokens):
        """How many tokens can stand there, one behind the other; whether that's all and a whole blazon."""
        self.reached = 0
        ends = self.ends(("rule", "blazon"), tokens, 0)
        return self.reached, len(tokens) in ends


class Token:
    def __init__(self, text, place):
        self.text = text
        self.place = place
        self.kind = "bad"
        if re.fullmatch("[a-z]+", text):
            self.kind = "word"
        elif re.fullmatch("[0-9]+", text):
            self.kind = "number" if re.fullmatch("[1-9][0-9]{0,2}", text) else "none"
        elif text == ",":
            self.kind = "comma"


def tokens_of(data):
    text = bytes(data).decode("latin-1")
    return [Token(each.group(), each.start()) for each in re.finditer(r"[a-z]+|[0-9]+|[^ \n]", text, re.ASCII | re.S)]


def fault_at(tokens, k):
    """The fault that is met at a token that the grammar takes, or None."""
    text = tokens[k].text
    if tokens[k].kind == "number" and not 2 <= int(text) <= 24:
        return [-4, tokens[k].place]
    if k > 1 and text in TINCTURES and tokens[k - 1].text == "and" and tokens[k - 2].text == text:
        return [-5, tokens[k].place]
    if text == "counterchanged" and tokens[0].text in TINCTURES:
        return [-6, tokens[k].place]
    if k > 0 and tokens[k - 1].text in ("a", "an") and text in SINGLE + ["small", "lesser", "great"]:
        if tokens[k - 1].text != ("an" if text[0] in "aeiou" else "a"):
            return [-7, tokens[k - 1].place]
    if text == "," and [token.text for token in tokens[:k + 1]].count(",") == 9:
        return [-8, tokens[k].place]
    return None


RULES = Rules()


def fault_of(data):
    """What read answers if it refuses the text, else None."""
    tokens = tokens_of(data)
    many, whole = RULES.accepted(tokens)
    for k in range(many):
        fault = fault_at(tokens, k)
        if fault:
            return fault
    if whole:
        return None
    if many == len(tokens):
        return [-3, len(data)]
    return [{"bad": -1, "none": -2}.get(tokens[many].kind, -3), tokens[many].place]


def in_one_form(data):
    """The text's tokens with blanks as the one form has them."""
    text = " ".join(token.text for token in tokens_of(data))
    return list(text.replace(" ,", ",").encode())


def line_words(line):
    return LINES[line] + " " if line else ""


def field_blazon(field):
    if field[0] == 0:
        return TINCTURES[field[1]]
    pair = f"{TINCTURES[field[-2]]} and {TINCTURES[field[-1]]}"
    if field[0] == 1:
        return f"{PARTED[field[1]]} {line_words(field[2])}{pair}"
    return f"{VARIED[field[1]]} of {field[2]} {line_words(field[3])}{pair}"


def layer_blazon(layer):
    fill = "counterchanged" if layer[-1] is None else field_blazon(layer[-1])
    if layer[0] == 0:
        return f"a {ORDINARIES[layer[1]]} {line_words(layer[2])}{fill}"
    charge, how_many, manner, size = layer[1:5]
    if how_many == 1:
        charged = SIZES[size] + SINGLE[charge]
        return f"{'an' if charged[0] in 'aeiou' else 'a'} {charged} {MANNERS[manner]}{fill}"
    return f"{COUNTS[how_many]} {SIZES[size]}{SEVERAL[charge]} {MANNERS[manner]}{fill}"


def blazon(field, layers=()):
    """The arms in their one form, as a text."""
    return ", ".join([field_blazon(field)] + [layer_blazon(layer) for layer in layers])
