"""A desk, which keeps programs under names and does what lines tell it."""

from flatrounds.errors import NoLine, NothingDone, Unknown
from flatrounds.kinds import is_name
from flatrounds.likeness import alike, unlike_input
from flatrounds.reading import numbers_from, read_program
from flatrounds.runs import deeds, results
from flatrounds.tabling import table_of
from flatrounds.texts import program_text, table_text
from flatrounds.trimming import trimmed

# What stands behind the word of a line; behind "program" all but the name is the text.
FORMS = {
    "undo": (), "names": (), "drop": ("name",), "show": ("name",), "run": ("name", "numbers"),
    "deeds": ("name", "numbers"), "alike": ("name", "name"), "unlike": ("name", "name"), "table": ("name",),
    "trim": ("name",)}


class Desk:
    """Programs that are kept under names, and what was kept ahead of each line that can be taken back."""

    def __init__(self):
        self._kept = {}
        self._past = []

    def undoable(self):
        """How many lines can be taken back."""
        return len(self._past)

    def tell(self, line):
        """Does what a line says and returns what there is to tell of it."""
        if not isinstance(line, str) or "\n" in line:
            raise NoLine()
        words = line.split(" ", 2)
        if words[0] == "program" and len(words) == 3 and is_name(words[1]):
            return self._change(words[1], read_program(words[2].replace("|", "\n")))
        words = line.split(" ")
        if not _is_of_form(words):
            raise NoLine()
        if words[0] == "undo":
            return self._undo()
        if words[0] == "names":
            return " ".join(sorted(self._kept)) if len(self._kept) > 0 else "none"
        programs = self._programs_of(words)
        if words[0] == "drop":
            return self._change(words[1], None)
        return _answer(words, programs)

    def _change(self, name, program):
        """Keeps a program under a name from now on, or nothing."""
        self._past.append((name, self._kept.get(name)))
        self._put(name, program)
        return "ok"

    def _undo(self):
        if len(self._past) == 0:
            raise NothingDone()
        name, program = self._past.pop()
        self._put(name, program)
        return "ok"

    def _put(self, name, program):
        if program is not None:
            self._kept[name] = program
        elif name in self._kept:
            del self._kept[name]

    def _programs_of(self, words):
        """The programs that are kept under the names of a line."""
        found = []
        for kind, word in zip(FORMS[words[0]], words[1:]):
            if kind == "name":
                if word not in self._kept:
                    raise Unknown(word)
                found.append(self._kept[word])
        return found


def _is_of_form(words):
    """Whether the words are those of a line with neither too many nor too few of them."""
    if words[0] not in FORMS:
        return False
    kinds = FORMS[words[0]]
    if len(words) != 1 + len(kinds):
        return False
    return all([is_name(word) if kind == "name" else _entered(word) is not None
                for kind, word in zip(kinds, words[1:])])


def _entered(word):
    """The input that is written as a word, or None."""
    return () if word == "-" else numbers_from(word.split(","))


def _answer(words, programs):
    """What there is to tell of programs, for a line that changes nothing."""
    word = words[0]
    if word == "show":
        return _in_a_line(program_text(programs[0]))
    if word == "run":
        return " ".join(_written(results(programs[0], _entered(words[2]))))
    if word == "deeds":
        return str(deeds(programs[0], _entered(words[2])))
    if word == "alike":
        return "yes" if alike(programs[0], programs[1]) else "no"
    if word == "unlike":
        return _input_word(unlike_input(programs[0], programs[1]))
    if word == "table":
        return _in_a_line(table_text(table_of(programs[0])))
    return _in_a_line(program_text(trimmed(programs[0])))


def _in_a_line(text):
    return text.replace("\n", "|")


def _written(numbers):
    return [str(number) for number in numbers]


def _input_word(entered):
    """The word for an input, or for none if there is no such input."""
    if entered is None:
        return "none"
    return ",".join(_written(entered)) if len(entered) > 0 else "-"
