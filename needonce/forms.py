"""What names, numbers and rows are, and which forms core terms have, whatever stands in the place of their parts."""

SIGNS = ("+", "-", "*", "div", "mod", "==", "<", "<=")
COMPARISONS = ("==", "<", "<=")

LONGEST_NAME = 80
LARGEST_NUMBER = 1000000000000000
LARGEST_TAG = 1000
LARGEST_NOTE = 1000000000000

# A name has the characters from ! to ~ without the percent sign.
FIRST_CODE = 33
LAST_CODE = 126
PERCENT_CODE = 37


def has_form(thing):
    """Tells whether something has the form of a core term. What stands in the place of terms is not examined."""
    if not isinstance(thing, tuple) or len(thing) == 0 or not isinstance(thing[0], str):
        return False
    check = FORMS.get(thing[0])
    return check is not None and check(thing)


def is_name(thing):
    """Tells whether something is a name."""
    if not isinstance(thing, str) or not 1 <= len(thing) <= LONGEST_NAME:
        return False
    codes = [ord(letter) for letter in thing]
    return all([FIRST_CODE <= code <= LAST_CODE and code != PERCENT_CODE for code in codes])


def are_names(things):
    """Tells whether something is a tuple of different names."""
    if not isinstance(things, tuple) or not all([is_name(thing) for thing in things]):
        return False
    return _are_different(things)


def is_integer(thing):
    """Tells whether something is an integer. A boolean is none."""
    return isinstance(thing, int) and not isinstance(thing, bool)


def is_core_number(thing):
    """Tells whether something is an integer within the bounds of a num."""
    return _is_number(thing, -LARGEST_NUMBER, LARGEST_NUMBER)


def is_row(thing, many):
    """Tells whether something is a tuple of so many things."""
    return isinstance(thing, tuple) and len(thing) == many


def are_rows(thing, many):
    """Tells whether something is a tuple of tuples of so many things."""
    return isinstance(thing, tuple) and all([is_row(row, many) for row in thing])


def is_sign(thing):
    """Tells whether something is the sign of an operator."""
    return isinstance(thing, str) and thing in SIGNS


def _is_number(thing, least, greatest):
    return is_integer(thing) and least <= thing <= greatest


def _are_different(things):
    return len({thing: True for thing in things}) == len(things)


def _is_num(term):
    return len(term) == 2 and is_core_number(term[1])


def _is_var(term):
    return len(term) == 2 and is_name(term[1])


def _is_app(term):
    return len(term) == 3


def _is_lam(term):
    return len(term) == 3 and is_name(term[1])


def _is_let(term):
    if len(term) != 3 or not are_rows(term[1], 2):
        return False
    return len(term[1]) > 0 and are_names(tuple([name for name, _ in term[1]]))


def _is_seq(term):
    return len(term) == 4 and is_name(term[1])


def _is_con(term):
    return len(term) == 3 and _is_number(term[1], 0, LARGEST_TAG) and isinstance(term[2], tuple)


def _is_default(thing):
    return thing is None or (is_row(thing, 2) and is_name(thing[0]))


def _is_case(term):
    if len(term) != 4 or not are_rows(term[2], 3) or not _is_default(term[3]):
        return False
    return all([_is_number(tag, 0, LARGEST_TAG) and are_names(names) for tag, names, _ in term[2]])


def _is_pick(term):
    if len(term) != 4 or not are_rows(term[2], 2) or not _is_default(term[3]):
        return False
    numbers = [number for number, _ in term[2]]
    return all([is_core_number(number) for number in numbers]) and _are_different(numbers)


def _is_prim(term):
    return len(term) == 4 and is_sign(term[1])


def _is_note(term):
    return len(term) == 3 and _is_number(term[1], 0, LARGEST_NOTE)


FORMS = {"num": _is_num, "var": _is_var, "app": _is_app, "lam": _is_lam, "let": _is_let, "seq": _is_seq,
         "con": _is_con, "case": _is_case, "pick": _is_pick, "prim": _is_prim, "note": _is_note}
