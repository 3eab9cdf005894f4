"""The words of a statement's text.

A word is a tuple (kind, value). The value of a number is the whole number, that of a text what stands
between its quotes with each quote within once; that of every other word is the word as it is written.
"""

NAME = "name"
KEPT = "kept"
NUMBER = "number"
TEXT = "text"
SIGN = "sign"
WRONG = "wrong"

KEPT_WORDS = (
    "create", "table", "drop", "insert", "into", "values", "update", "set", "where", "delete", "from",
    "select", "order", "by", "desc", "limit", "begin", "commit", "rollback", "to", "savepoint", "int",
    "text", "not", "null", "unique", "or", "and", "is",
)
LONG_SIGNS = ("<>", "<=", ">=")
SHORT_SIGNS = ("(", ")", ",", "=", "<", ">", "+", "-", "*")
BETWEEN_WORDS = (" ", "\n")
QUOTE = "'"
MOST_FIGURES = 30


def split_words(text):
    words = []
    place = skip_blanks(text, 0)
    while place < len(text):
        behind = find_end(text, place)
        words.append(make_word(text[place:behind]))
        place = skip_blanks(text, behind)
    return words


def skip_blanks(text, place):
    while place < len(text) and text[place] in BETWEEN_WORDS:
        place += 1
    return place


def find_end(text, start):
    # Letters right behind figures belong to the figures' word, which they make wrong.
    if is_letter(text[start]) or is_figure(text[start]):
        return skip_name_signs(text, start)
    if text[start] == QUOTE:
        return find_text_end(text, start)
    if text[start:start + 2] in LONG_SIGNS:
        return start + 2
    return start + 1


def skip_name_signs(text, place):
    while place < len(text) and is_name_sign(text[place]):
        place += 1
    return place


def find_text_end(text, start):
    place = start + 1
    while place < len(text):
        if text[place] != QUOTE:
            place += 1
        elif text[place + 1:place + 2] == QUOTE:
            place += 2
        else:
            return place + 1
    return len(text)


def make_word(written):
    first = written[0]
    if is_letter(first):
        return (KEPT if written in KEPT_WORDS else NAME, written)
    if is_figure(first):
        return make_number(written)
    if first == QUOTE:
        return make_text(written)
    if written in LONG_SIGNS or written in SHORT_SIGNS:
        return (SIGN, written)
    return (WRONG, written)


def make_number(written):
    if len(written) > MOST_FIGURES or not all([is_figure(sign) for sign in written]):
        return (WRONG, written)
    return (NUMBER, int(written))


def make_text(written):
    # Quotes within come in twos, so an odd one out is a first quote without a last one.
    if written.count(QUOTE) % 2 == 1:
        return (WRONG, written)
    return (TEXT, written[1:-1].replace("''", QUOTE))


def is_name_sign(sign):
    return is_letter(sign) or is_figure(sign) or sign == "_"


def is_letter(sign):
    return "a" <= sign <= "z"


def is_figure(sign):
    return "0" <= sign <= "9"
