"""Texts of programs, tables and codes."""

from flatrounds.programs import deeds_in, has_round


def program_text(program):
    """The text of a program: what it is given and told, then a line for each statement and deed."""
    lines = [_line("given", program.given), _line("told", program.told)]
    for statement in program.block:
        if has_round(statement):
            lines.append(_line("round", statement[1:2]))
            lines.extend([_deed_line(deed) for deed in deeds_in(statement)])
            lines.append("end")
        else:
            lines.append(_deed_line(statement))
    return "\n".join(lines)


def _deed_line(deed):
    if deed[0] == "zero":
        return f"{deed[1]} = 0"
    if deed[0] == "copy":
        return f"{deed[1]} = {deed[2]}"
    return f"{deed[1]} + 1"


def _line(word, parts):
    """A word with other words or numbers behind it."""
    return " ".join([word] + [str(part) for part in parts])


def table_text(table):
    """The text of a table: its bounds and measures, then a line with the forms of each cell."""
    lines = [_line("bounds", table.bounds), _line("measures", table.measures)]
    for row in table.rows:
        lines.append(", ".join([_line(str(base), steps) for base, steps in row]))
    return "\n".join(lines)


def code_text(code):
    """The text of a code: how many registers there are, then a line for each step."""
    lines = [_line("registers", (code.registers,))]
    lines.extend([_line(step[0], step[1:]) for step in code.steps])
    return "\n".join(lines)
