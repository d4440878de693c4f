"""The tokens of a text."""

from lotsandchoices.fault import Fault, NO_TOKEN

WORD = "word"
NUMBER = "number"
SIGN = "sign"
END = "end"

LONGEST_WORD = 16
GREATEST_NUMBER = 1000000000
MOST_DIGITS = 10
ARROW = "->"
SIGNS = "={}()[],;:/|"

# The signs of the bytes from 38 on, in their order.
PRINTED = "&'()*+,-./0123456789:;<=>?@ABCDEFGHIJKLMNOPQRSTUVWXYZ[\\]^_`abcdefghijklmnopqrstuvwxyz{|}~"
FIRST_PRINTED = 38

NO_NAMES = (
    "chance", "budget", "def", "let", "observe", "tell", "table", "net", "flag",
    "num", "if", "flip", "pick", "uniform", "given", "weigh", "true", "false",
)


class Token:
    """A token: its kind, its signs, and the place of the first of them."""

    def __init__(self, kind, text, place):
        self.kind = kind
        self.text = text
        self.place = place


def is_name(token):
    return token.kind == WORD and token.text not in NO_NAMES


def sign_of(byte):
    """The sign of a byte; ? also stands for all the bytes that mean nothing outside remarks."""
    if byte == 32 or byte == 9:
        return " "
    if byte == 10:
        return "\n"
    if byte == 35:
        return "#"
    if FIRST_PRINTED <= byte < FIRST_PRINTED + len(PRINTED):
        return PRINTED[byte - FIRST_PRINTED]
    return "?"


def bytes_of(signs):
    return [ord(sign) for sign in signs]


def behind_blanks(signs, place):
    """The first place from this one on that is no blank and in no remark."""
    in_remark = False
    while place < len(signs):
        sign = signs[place]
        if sign == "#":
            in_remark = True
        elif sign == "\n":
            in_remark = False
        elif sign != " " and not in_remark:
            return place
        place += 1
    return place


def word_at(signs, place):
    """The letters and digits from this place on."""
    end = place
    while end < len(signs) and signs[end].isalnum():
        end += 1
    return signs[place:end]


def number_at(signs, place):
    """The digits from this place on, with the - if one stands there."""
    end = place
    if signs[place] == "-":
        end += 1
    while end < len(signs) and signs[end].isdigit():
        end += 1
    return signs[place:end]


def is_number(text):
    digits = text[1:] if text.startswith("-") else text
    if digits == "" or len(digits) > MOST_DIGITS:
        return False
    if digits.startswith("0"):
        return text == "0"
    return int(digits) <= GREATEST_NUMBER


def token_at(signs, place):
    sign = signs[place]
    if sign.isalpha():
        word = word_at(signs, place)
        if len(word) <= LONGEST_WORD:
            return Token(WORD, word, place)
    elif signs[place:place + len(ARROW)] == ARROW:
        return Token(SIGN, ARROW, place)
    elif sign == "-" or sign.isdigit():
        number = number_at(signs, place)
        if is_number(number):
            return Token(NUMBER, number, place)
    elif sign in SIGNS:
        return Token(SIGN, sign, place)
    raise Fault(NO_TOKEN, place)


def tokens_of(text):
    """The tokens of a list of bytes, and behind them one that stands for its end."""
    signs = "".join([sign_of(byte) for byte in text])
    tokens = []
    place = behind_blanks(signs, 0)
    while place < len(signs):
        token = token_at(signs, place)
        tokens.append(token)
        place = behind_blanks(signs, place + len(token.text))
    tokens.append(Token(END, "", len(signs)))
    return tokens
