"""Blazons gone through token by token: words, numbers and commas, with blanks between."""

LETTERS = "abcdefghijklmnopqrstuvwxyz"
DIGITS = "0123456789"
COMMA = ","
BLANKS = (32, 10)

MOST_DIGITS = 3

BYTE_THAT_CANT_BE = 1
NO_NUMBER = 2
ELSE_WANTED = 3


class BlazonFault(ValueError):
    def __init__(self, kind, place):
        ValueError.__init__(self, kind, place)
        self.kind = kind
        self.place = place


# The text is empty at the blazon's end; the end is the place behind the token.
class Token:
    def __init__(self, text, place, end):
        self.text = text
        self.place = place
        self.end = end


# The sign that a byte stands for among these, or the empty text.
def sign_among(byte, signs):
    number = byte - ord(signs[0])
    if 0 <= number < len(signs):
        return signs[number]
    return ""


def skip_blanks(data, place):
    while place < len(data) and data[place] in BLANKS:
        place = place + 1
    return place


# As many of these signs as stand at the place one behind the other.
def signs_at(data, place, signs):
    found = []
    while place < len(data) and sign_among(data[place], signs) != "":
        found.append(sign_among(data[place], signs))
        place = place + 1
    return "".join(found)


def token_at(data, place):
    if place == len(data):
        return Token("", place, place)
    for signs in (LETTERS, DIGITS):
        text = signs_at(data, place, signs)
        if text != "":
            return Token(text, place, place + len(text))
    if data[place] == ord(COMMA):
        return Token(COMMA, place, place + 1)
    raise BlazonFault(BYTE_THAT_CANT_BE, place)


def is_number(token):
    return token.text.isdigit()


def check_number(token):
    if token.text[0] == "0" or len(token.text) > MOST_DIGITS:
        raise BlazonFault(NO_NUMBER, token.place)


# A token is looked at only when the grammar comes to it, so that its own fault is told no sooner.
class TokenReader:
    def __init__(self, data):
        self.data = data
        self.ahead = None
        self.end = 0

    def peek(self):
        if self.ahead is None:
            token = token_at(self.data, skip_blanks(self.data, self.end))
            if is_number(token):
                check_number(token)
            self.ahead = token
        return self.ahead

    def sees(self, text):
        return self.peek().text == text

    def sees_one_of(self, texts):
        return self.peek().text in texts

    def accept(self):
        token = self.peek()
        self.end = token.end
        self.ahead = None
        return token

    def refuse(self):
        raise BlazonFault(ELSE_WANTED, self.peek().place)

    def accept_text(self, text):
        if not self.sees(text):
            self.refuse()
        return self.accept()

    def accept_number(self):
        if not is_number(self.peek()):
            self.refuse()
        return self.accept()
