"""Commands of a desk: their words, and the numbers, ratios and powers that are written in them."""

from math import gcd

from etaparts.products import check_product
from etaparts.ratios import check_ratio

# What stands behind each word, part by part.
DEEDS = {
    "kind": ("new", "text"), "product": ("new", "powers"), "count": ("new", "kind"),
    "times": ("new", "product", "product"), "power": ("new", "product", "integer"), "at": ("new", "product", "count"),
    "sum": ("new",), "term": ("sum", "ratio", "product"), "copy": ("new", "name"), "drop": ("name",),
}
QUESTIONS = {
    "undo": (), "redo": (), "names": (), "show": ("name",), "row": ("kind", "count"), "numbers": ("product", "count"),
    "powers": ("kind", "count"), "alike": ("kind", "kind"), "level": ("product",), "nought": ("sum", "count"),
    "divides": ("product", "count", "count", "count"), "same": ("name", "other"),
}


def is_command(value):
    """Whether any value is a string that is a command by its words alone."""
    return isinstance(value, str) and parts_read(value) is not None


def is_deed(value):
    """Whether any value is a string that is a deed by its words alone."""
    return is_command(value) and is_deed_word(word_of(value))


def is_deed_word(word):
    return word in DEEDS


def word_of(command):
    return command.split(" ")[0]


def shape_of(word):
    """What stands behind the word, part by part; None of another word."""
    return DEEDS[word] if word in DEEDS else QUESTIONS.get(word)


def parts_read(command):
    """The list of what the parts behind the word tell, None if the string is no command."""
    shape = shape_of(word_of(command))
    if shape is None:
        return None
    pieces = command.split(" ")[1:]
    if "text" in shape and len(pieces) > len(shape):
        # A text, which stands last, has blanks of its own.
        ahead = len(shape) - 1
        pieces = pieces[:ahead] + [" ".join(pieces[ahead:])]
    if len(pieces) != len(shape):
        return None
    parts = [part_read(sort, piece) for sort, piece in zip(shape, pieces)]
    return None if any([part is None for part in parts]) else parts


def part_read(sort, piece):
    """What a piece tells as a part of this sort, None if it is none."""
    if sort == "text":
        return piece if piece != "" else None
    if sort == "count":
        return count_read(piece)
    if sort == "integer":
        return integer_read(piece)
    if sort == "ratio":
        return ratio_read(piece)
    if sort == "powers":
        return powers_read(piece)
    return piece if is_name(piece) else None


def is_name(piece):
    """Whether a string is a name of the desk."""
    if not 1 <= len(piece) <= 8 or not is_small_letter(piece[0]):
        return False
    return all([is_small_letter(sign) or is_digit(sign) for sign in piece])


def is_small_letter(sign):
    return "a" <= sign <= "z"


def is_digit(sign):
    return "0" <= sign <= "9"


def digits_read(piece, most):
    """The count that a piece of at most so many digits tells, None if it has needless zeros or is none."""
    if not 1 <= len(piece) <= most or not all([is_digit(sign) for sign in piece]):
        return None
    return int(piece) if piece == "0" or piece[0] != "0" else None


def count_read(piece):
    return digits_read(piece, 4)


def integer_read(piece):
    if piece[:1] != "-":
        return digits_read(piece, 2)
    size = digits_read(piece[1:], 2)
    # 0 is not below 0.
    return None if size is None or size == 0 else -size


def ratio_read(piece):
    number, sign, under = piece.partition("/")
    number = integer_read(number)
    if number is None or sign == "":
        return None if number is None else (number, 1)
    under = count_read(under)
    return (number, under) if under is not None and under >= 2 and gcd(number, under) == 1 else None


def powers_read(piece):
    """The tuple of the powers, in their sequence."""
    if piece == "1":
        return ()
    powers = [power_read(pair) for pair in piece.split(",")]
    return None if len(powers) > 12 or any([pair is None for pair in powers]) else tuple(powers)


def power_read(piece):
    step, sign, power = piece.partition(":")
    if sign == "" or count_read(step) is None or integer_read(power) is None:
        return None
    return (count_read(step), integer_read(power))


def powers_text(product):
    """The powers of a product as a command has them."""
    check_product(product)
    return ",".join([f"{step}:{power}" for step, power in product[1]]) if product[1] else "1"


def ratio_text(ratio):
    """A ratio as a command has it."""
    check_ratio(ratio)
    number, under = ratio
    return str(number) if under == 1 else f"{number}/{under}"
