"""Records: claims as texts of lines, and what is read of a text."""

from etaparts.errors import BadRecord, InvalidClaim, InvalidText, TooMany
from etaparts.judge import claim_words, is_claim
from etaparts.trees import is_tree


def tree_text(value):
    """The tree text of a tree value."""
    if not is_tree(value):
        raise InvalidClaim(value)
    return text_of(value)


def text_of(value):
    if isinstance(value, tuple):
        return "(" + " ".join([text_of(part) for part in value]) + ")"
    return str(value)


def record_text(claim):
    """The record of a claim."""
    if not is_claim(claim):
        raise InvalidClaim(claim)
    lines = [first_line(claim[0])] + [text_of(part) for part in claim[1:]]
    lines.append(last_line(lines))
    text = joined(lines)
    if len(text) > 20000:
        raise TooMany("signs", 20000)
    return text


def first_line(word):
    return "etaparts " + word


def last_line(lines):
    """The line that is told by all lines ahead of it."""
    return f"end {len(lines)} {check_by(joined(lines))}"


def joined(lines):
    return "".join([line + "\n" for line in lines])


def check_of(text):
    """The check of the lines that are the text."""
    if not isinstance(text, str):
        raise InvalidText(text)
    return check_by(text)


def check_by(text):
    check = 0
    for sign in text:
        check = (check * 31 + ord(sign)) % 9973
    return check


def parse_record(text):
    """The claim that has the text as its record."""
    if not isinstance(text, str):
        raise InvalidText(text)
    pieces = text.split("\n")
    # What stands behind the last line feed is no line, but a piece without one is a line that is not as told.
    lines = pieces[:-1]
    word, many = word_and_many(lines)
    parts = [part_of(lines, position) for position in range(1, 1 + many)]
    end = 1 + many
    if len(lines) <= end or lines[end] != last_line(lines[:end]):
        raise BadRecord(end)
    if len(lines) > end + 1 or pieces[-1] != "":
        raise BadRecord(end + 1)
    return (word, *parts)


def word_and_many(lines):
    """The word that the first line tells, and how many parts stand behind it."""
    for word, many in claim_words():
        if lines[:1] == [first_line(word)]:
            return word, many
    raise BadRecord(0)


def part_of(lines, position):
    """The tree value whose tree text the line is."""
    if position >= len(lines):
        raise BadRecord(position)
    found = values_in(lines[position])
    # Whatever was read by and by is written once more: only a tree text comes out as it was.
    if len(found) != 1 or not is_tree(found[0]) or text_of(found[0]) != lines[position]:
        raise BadRecord(position)
    return found[0]


def values_in(line):
    """The values that the tokens of the line tell, one behind the other, none if it can be no tree text."""
    rows = [[]]
    for token in line.replace("(", " ( ").replace(")", " ) ").split(" "):
        if token == "(":
            rows.append([])
        elif token == ")":
            closed = tuple(rows.pop())
            if not rows:
                return []
            rows[-1].append(closed)
        elif token != "":
            rows[-1].append(number_or_word(token))
        if len(rows) > 13:
            return []
    return rows[0] if len(rows) == 1 else []


def number_or_word(token):
    digits = token[1:] if token.startswith("-") else token
    # A longer number is none that may stand here; as a word it is none, either.
    is_number = 1 <= len(digits) <= 30 and all(["0" <= sign <= "9" for sign in digits])
    return int(token) if is_number else token
