"""What kinds of things there are: judges of numbers, indexes, inputs, names, deeds and statements.

Each judge takes any object whatever, so it asks for the kind of a thing ahead of all else.
"""

MOST_LETTERS = 8
DEED_LENGTHS = {"zero": 2, "copy": 3, "more": 2}


def is_integer(thing):
    """Whether it is an int that is no flag."""
    return isinstance(thing, int) and not isinstance(thing, bool)


def is_number(thing):
    """Whether it is an integer from 0 on."""
    return is_integer(thing) and thing >= 0


def is_index(thing, many):
    """Whether it is a number below so many."""
    return is_number(thing) and thing < many


def is_number_tuple(thing, many):
    """Whether it is a tuple of so many numbers."""
    if not isinstance(thing, tuple) or len(thing) != many:
        return False
    return all([is_number(part) for part in thing])


def is_name(thing):
    """Whether it is a string of 1 to 8 letters a to z."""
    if not isinstance(thing, str) or not 1 <= len(thing) <= MOST_LETTERS:
        return False
    return all(["a" <= letter <= "z" for letter in thing])


def is_name_tuple(thing):
    """Whether it is a tuple of unlike names, perhaps of none."""
    if not isinstance(thing, tuple) or not all([is_name(part) for part in thing]):
        return False
    return len(set(thing)) == len(thing)


def is_dict_of(names, thing):
    """Whether it is a dict with just these names as its keys."""
    if not isinstance(thing, dict) or len(thing) != len(names):
        return False
    # Other keys are not compared with names at all: bytes would warn.
    return all([isinstance(key, str) for key in thing]) and all([name in thing for name in names])


def is_deed(thing):
    """Whether it is a zero, a copy or a more."""
    if not isinstance(thing, tuple) or len(thing) == 0 or not isinstance(thing[0], str):
        return False
    if DEED_LENGTHS.get(thing[0]) != len(thing):
        return False
    return all([is_name(part) for part in thing[1:]])


def first_wrong_deed(things):
    """The index of the first item of a tuple that is no deed, or None."""
    for j, thing in enumerate(things):
        if not is_deed(thing):
            return j
    return None


def is_deed_tuple(thing):
    """Whether it is a tuple of deeds, perhaps of none."""
    return isinstance(thing, tuple) and first_wrong_deed(thing) is None


def is_round_frame(thing):
    """Whether it is a round, but that any things may stand in it in the place of deeds."""
    if not isinstance(thing, tuple) or len(thing) != 3 or not isinstance(thing[0], str):
        return False
    return thing[0] == "round" and is_name(thing[1]) and isinstance(thing[2], tuple)


def is_statement(thing):
    """Whether it is a deed or a round."""
    return is_deed(thing) or is_round_frame(thing) and is_deed_tuple(thing[2])
