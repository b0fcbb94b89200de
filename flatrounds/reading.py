"""Programs, tables and codes from their texts."""

from flatrounds.codes import STEP_PARTS, Code
from flatrounds.errors import BadText
from flatrounds.kinds import is_name
from flatrounds.programs import Program
from flatrounds.tables import Table

MOST_DIGITS = 40


def _lines_of(text):
    """The lines of what shall be a text."""
    if not isinstance(text, str):
        raise BadText(0)
    return text.split("\n")


def _words_behind(lines, at, word):
    """The words behind the word that a line begins with."""
    if at == len(lines):
        raise BadText(at + 1)
    words = lines[at].split(" ")
    if words[0] != word:
        raise BadText(at + 1)
    return words[1:]


def read_program(text):
    """The program of a text."""
    lines = _lines_of(text)
    given = _names_behind(lines, 0, "given")
    told = _names_behind(lines, 1, "told")
    return Program(given, told, _block_from(lines))


def _names_behind(lines, at, word):
    found = _words_behind(lines, at, word)
    if not all([is_name(part) for part in found]):
        raise BadText(at + 1)
    return tuple(found)


def _block_from(lines):
    """The block that stands behind the first two lines."""
    block = []
    # The name of the round whose end was not met yet, and the deeds in it.
    counted = None
    steps = []
    for at in range(2, len(lines)):
        words = lines[at].split(" ")
        deed = _deed_from(words)
        if deed is not None and counted is not None:
            steps.append(deed)
        elif deed is not None:
            block.append(deed)
        elif counted is None and words[0] == "round" and len(words) == 2 and is_name(words[1]):
            counted = words[1]
        elif counted is not None and words == ["end"]:
            block.append(("round", counted, tuple(steps)))
            counted = None
            steps = []
        else:
            raise BadText(at + 1)
    if counted is not None:
        raise BadText(len(lines) + 1)
    return tuple(block)


def _deed_from(words):
    """The deed that is written in the words of a line, or None."""
    if len(words) != 3 or not is_name(words[0]):
        return None
    if words[1:] == ["=", "0"]:
        return ("zero", words[0])
    if words[1:] == ["+", "1"]:
        return ("more", words[0])
    if words[1] == "=" and is_name(words[2]):
        return ("copy", words[0], words[2])
    return None


def numbers_from(words):
    """The numbers that some words are, as a tuple; None if one of them is written in another way."""
    if not all([_is_written_number(word) for word in words]):
        return None
    return tuple([int(word) for word in words])


def _is_written_number(word):
    """Whether a word is digits, not too many, without a needless 0 ahead."""
    if not 1 <= len(word) <= MOST_DIGITS or not all(["0" <= digit <= "9" for digit in word]):
        return False
    return word == "0" or word[0] != "0"


def _numbers_behind(lines, at, word):
    found = numbers_from(_words_behind(lines, at, word))
    if found is None:
        raise BadText(at + 1)
    return found


def read_table(text):
    """The table of a text."""
    lines = _lines_of(text)
    bounds = _numbers_behind(lines, 0, "bounds")
    measures = _numbers_behind(lines, 1, "measures")
    return Table(bounds, measures, tuple([_row_from(lines, at) for at in range(2, len(lines))]))


def _row_from(lines, at):
    """The forms that are written in a line, each of its base and its steps."""
    found = []
    for part in lines[at].split(", "):
        numbers = numbers_from(part.split(" "))
        if numbers is None:
            raise BadText(at + 1)
        found.append((numbers[0], numbers[1:]))
    return tuple(found)


def read_code(text):
    """The code of a text."""
    lines = _lines_of(text)
    registers = _numbers_behind(lines, 0, "registers")
    if len(registers) != 1:
        raise BadText(1)
    return Code(registers[0], tuple([_step_from(lines, at) for at in range(1, len(lines))]))


def _step_from(lines, at):
    """The step that is written in a line."""
    words = lines[at].split(" ")
    numbers = numbers_from(words[1:])
    if words[0] not in STEP_PARTS or numbers is None or len(numbers) != sum(STEP_PARTS[words[0]]):
        raise BadText(at + 1)
    return (words[0],) + numbers
