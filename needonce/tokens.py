"""From a text to its tokens."""

from needonce.errors import BadCharacter, BadNumber

KEYWORDS = (
    "data", "class", "instance", "where", "let", "in", "case", "of", "if", "then", "else", "div", "mod", "note",
)

SMALL_LETTERS = "abcdefghijklmnopqrstuvwxyz"
CAPITAL_LETTERS = "ABCDEFGHIJKLMNOPQRSTUVWXYZ"
DIGITS = "0123456789"
MARKS = "_'"

# The signs of two characters stand first, because the longer of two signs is taken.
SIGNS = (
    "->", "=>", "::", "==", "<=",
    "=", "|", "\\", "(", ")", "[", "]", ",", ";", "{", "}", "+", "-", "*", "<", ":",
)

LARGEST_NUMBER = 1000000000000
MOST_DIGITS = 13


def tokens(text):
    """Returns the list of the tokens of a text, the end token last."""
    found = []
    at = 0
    row = 1
    row_start = 0
    while at < len(text):
        if text[at] == "\n":
            at += 1
            row += 1
            row_start = at
        elif text[at] == " ":
            at += 1
        elif text.startswith("--", at):
            at = _comment_end(text, at)
        else:
            token = _token_at(text, at, row, at - row_start + 1)
            found.append(token)
            at += len(token[1])
    found.append(("end", "", row, at - row_start + 1))
    return found


def _comment_end(text, at):
    end = text.find("\n", at)
    return len(text) if end < 0 else end


def _token_at(text, at, row, column):
    letter = text[at]
    if letter in SMALL_LETTERS:
        word = _word_at(text, at)
        return ("keyword" if word in KEYWORDS else "name", word, row, column)
    if letter in CAPITAL_LETTERS:
        return ("con", _word_at(text, at), row, column)
    if letter in DIGITS:
        word = _word_at(text, at)
        if not _is_number(word):
            raise BadNumber(row, column)
        return ("number", word, row, column)
    for sign in SIGNS:
        if text.startswith(sign, at):
            return ("sign", sign, row, column)
    raise BadCharacter(row, column)


def _word_at(text, at):
    end = at + 1
    while end < len(text) and _goes_on(text[end]):
        end += 1
    return text[at:end]


def _goes_on(letter):
    return letter in SMALL_LETTERS or letter in CAPITAL_LETTERS or letter in DIGITS or letter in MARKS


def _is_number(word):
    # The length comes first: Python does not turn thousands of digits into an integer.
    if len(word) > MOST_DIGITS or (word[0] == "0" and len(word) > 1):
        return False
    for letter in word:
        if letter not in DIGITS:
            return False
    return int(word) <= LARGEST_NUMBER
