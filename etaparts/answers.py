"""What a desk's commands make of things, and what they tell of them."""

from etaparts.commands import powers_text, ratio_text
from etaparts.dividing import decided_dividing
from etaparts.equal import decided_nought
from etaparts.errors import InvalidRatio, NoProduct
from etaparts.fitting import least_level
from etaparts.kindtexts import kind_text, parse_kind
from etaparts.powers import as_product, kind_row, powers_row, unlike_place
from etaparts.products import check_product, product_at, product_power, product_times
from etaparts.series import product_row
from etaparts.sums import sum_added


def thing_made(word, parts):
    """What a deed that makes a thing makes of its parts, the things themselves in the place of their names."""
    make = MADE[word]
    return make(*parts)


def answer_told(word, parts):
    """The answer of a command that tells something of its parts."""
    tell = TOLD[word]
    return tell(*parts)


def product_made(powers):
    product = ("product", powers)
    check_product(product)
    return product


def product_counting(kind):
    product = as_product(kind)
    if product is None:
        raise NoProduct()
    return product


def sum_without_terms():
    return ("sum", ())


def sum_with_term(total, ratio, product):
    if ratio[0] == 0:
        raise InvalidRatio(ratio)
    return sum_added(total, ("sum", ((ratio, product),)))


def copied(thing):
    return thing


def kind_read(text):
    return parse_kind(text)


def multiplied(product, other):
    return product_times(product, other)


def powered(product, exponent):
    return product_power(product, exponent)


def spread(product, d):
    return product_at(product, d)


def numbers_text(numbers):
    return " ".join([str(number) for number in numbers]) if numbers else "-"


def thing_text(thing):
    if thing[0] == "kind":
        return kind_text(thing)
    if thing[0] == "product":
        return powers_text(thing)
    lines = [f"{ratio_text(ratio)} {powers_text(product)}" for ratio, product in thing[1]]
    return "\n".join(lines) if lines else "0"


def row_text(kind, many):
    return numbers_text(kind_row(kind, many))


def product_numbers_text(product, many):
    return numbers_text(product_row(product, many))


def kind_powers_text(kind, many):
    return numbers_text(powers_row(kind, many))


def alike_text(kind, other):
    place = unlike_place(kind, other)
    return "ever" if place is None else str(place)


def level_text(product):
    level = least_level(product)
    return "-" if level is None else str(level)


def nought_text(total, level):
    paper = decided_nought(level, total)
    if paper[0] == "nought":
        return f"ever {ratio_text(paper[2])}"
    return f"place {paper[1]} {ratio_text(paper[2])}"


def divides_text(product, m, t, u):
    paper = decided_dividing(product, m, t, u)
    word = "ever" if paper[0] == "divisible" else "place"
    return f"{word} {numbers_text(paper[1:])}"


def same_text(thing, other):
    return "yes" if thing == other else "no"


MADE = {"kind": kind_read, "product": product_made, "count": product_counting, "times": multiplied, "power": powered,
        "at": spread, "sum": sum_without_terms, "term": sum_with_term, "copy": copied}
TOLD = {"show": thing_text, "row": row_text, "numbers": product_numbers_text, "powers": kind_powers_text,
        "alike": alike_text, "level": level_text, "nought": nought_text, "divides": divides_text, "same": same_text}
