"""The small language of kinds: texts that are read as kinds, and the text of a kind."""

from etaparts.errors import BadText, InvalidText
from etaparts.kinds import check_kind

SIGNS = "abcdefghijklmnopqrstuvwxyz0123456789"


def parse_kind(text):
    """The kind that is read."""
    if not isinstance(text, str):
        raise InvalidText(text)
    lines = lines_of(text)
    if not lines:
        raise BadText(len(text))
    modulus = modulus_from(lines[0])
    rows = [(0, 0)] * modulus
    for line in lines[1:]:
        rows = line_done(rows, line)
    return ("kind", modulus, tuple(rows))


def lines_of(text):
    """For each row with tokens the list of the tuples (token, place), the row's end behind them as ("", place).

    A sign that begins no token is told ahead of all else, so the whole text is looked through first.
    """
    lines = []
    start = 0
    for line in text.split("\n"):
        told = line.partition("#")[0]
        tokens = tokens_of(told, start)
        if tokens:
            lines.append(tokens + [("", start + len(told))])
        start += len(line) + 1
    return lines


def tokens_of(told, start):
    """The tuples (token, place) of a row without its remark, which begins at the place start."""
    tokens = []
    token = ""
    for at, sign in enumerate(told + " "):
        if sign in SIGNS:
            token += sign
        elif sign != " ":
            raise BadText(start + at)
        elif token != "":
            tokens.append((token, start + at - len(token)))
            token = ""
    return tokens


def modulus_from(line):
    word, place = line[0]
    if word != "modulus":
        raise BadText(place)
    modulus = count_from(line, 1, 1, 12)
    check_end(line, 2)
    return modulus


def count_from(line, at, low, high):
    """The count that the token tells; compared as a text, so that needless zeros are wrong."""
    token, place = line[at]
    for count in range(low, high + 1):
        if token == str(count):
            return count
    raise BadText(place)


def check_end(line, at):
    token, place = line[at]
    if token != "":
        raise BadText(place)


def rests_from(line, at, modulus):
    """The rests that are told from the token at this position to the row's end."""
    if line[at][0] == "all":
        check_end(line, at + 1)
        return list(range(modulus))
    rests = [count_from(line, at, 0, modulus - 1)]
    for position in range(at + 1, len(line) - 1):
        rest = count_from(line, position, 0, modulus - 1)
        if rest in rests:
            raise BadText(line[position][1])
        rests.append(rest)
    return rests


def line_done(rows, line):
    """The rows of the kind behind a further row of the text."""
    word, place = line[0]
    if word == "parts":
        return parts_told(rows, rests_from(line, 1, len(rows)))
    if word == "colours":
        colours = count_from(line, 1, 0, 6)
        return colours_told(rows, colours, rests_from(line, 2, len(rows)))
    if word == "most":
        most = count_from(line, 1, 0, 6)
        return most_told(rows, most, rests_from(line, 2, len(rows)))
    raise BadText(place)


def parts_told(rows, rests):
    told = list(rows)
    for rest in rests:
        if rows[rest][0] == 0:
            told[rest] = (1, 0)
    return told


def colours_told(rows, colours, rests):
    told = list(rows)
    for rest in rests:
        told[rest] = (colours, rows[rest][1]) if colours > 0 else (0, 0)
    return told


def most_told(rows, most, rests):
    told = list(rows)
    for rest in rests:
        if rows[rest][0] > 0:
            told[rest] = (rows[rest][0], most)
    return told


def kind_text(kind):
    """The text of the kind, which is read as the kind."""
    check_kind(kind)
    modulus, rows = kind[1:]
    lines = [f"modulus {modulus}"]
    lines += line_for("parts", [rest for rest in range(modulus) if rows[rest][0] > 0], modulus)
    for colours in range(2, 7):
        lines += line_for(f"colours {colours}", [rest for rest in range(modulus) if rows[rest][0] == colours], modulus)
    for most in range(1, 7):
        lines += line_for(f"most {most}", [rest for rest in range(modulus) if rows[rest][1] == most], modulus)
    return "".join([line + "\n" for line in lines])


def line_for(words, rests, modulus):
    """The list of the one row with these words and rests; none without rests."""
    if not rests:
        return []
    which = "all" if len(rests) == modulus else " ".join([str(rest) for rest in rests])
    return [words + " " + which]
