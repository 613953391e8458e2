"""Lines: signs and gaps written as a text, and read again (point 12)."""

from straysign.errors import NoLine

FIGURES = "0123456789"
GAP = "?"


def sign_shown(sign):
    return GAP if sign is None else str(sign)


def shown(signs):
    return " ".join([sign_shown(sign) for sign in signs])


def is_number(part):
    if part == "":
        return False
    if part[0] == "0" and part != "0":
        return False
    # Taking int's word for it would let in more: signs ahead of the figures, blanks and underscores among them.
    return all([letter in FIGURES for letter in part])


def part_read(part):
    if part == GAP:
        return None
    if not is_number(part):
        raise NoLine(f"{part!r} is neither a number nor a gap")
    return int(part)


def line_read(line):
    # Splitting the empty line would give one empty part; it has none.
    if line == "":
        return []
    return [part_read(part) for part in line.split(" ")]
