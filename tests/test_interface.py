"""The names, files and parameters of the interface, as far as it has landed."""

import copy
import importlib
import inspect
import unittest

from asking import Asking

INTERFACE = """
divisors: divisors_of(number) primes_of(number) coprime_count(number) is_prime(value) common_divisor(first,second)
divisors: index_of(level) symbol(first,prime)
ratios: is_ratio(value) ratio_of(first,second) added(one,other) less(one,other) times(one,other) divided(one,other)
ratios: compared(one,other) square_free(ratio)
series: product_row(product,many) plain_row(product,many) number_at(product,place) rows_added(row,other)
series: rows_times(row,other) row_power(row,exponent) row_at(row,d,many) section_of(row,m,t) first_unlike(row,other)
products: is_product(value) product_times(product,other) product_power(product,exponent) product_at(product,d)
products: parting_place(product,other)
kinds: is_kind(value) colours_of(kind,part) most_of(kind,part)
kindtexts: parse_kind(text) kind_text(kind)
powers: power_at(kind,part) period(kind) powers_row(kind,many) kind_row(kind,many) plain_kind_row(kind,many)
powers: unlike_place(kind,other) as_product(kind)
listing: is_partition(kind,value) partitions(kind,number) partition_count(kind,number) count_row(kind,many)
listing: counts_by_many(kind,number)
ranking: partition_at(kind,number,position) position_of(kind,partition) least_partition(kind,number)
ranking: greatest_partition(kind,number) next_partition(kind,partition)
glaisher: is_parts(value) is_free(fold,parts) is_few(fold,parts) gathered(fold,parts) spread(fold,parts)
glaisher: free_parts(fold,total) few_parts(fold,total)
conjugates: conjugate(parts) hooks(parts) is_own_conjugate(parts) of_hooks(parts)
franklin: exchanged(parts) is_kept(parts) kept_parts(total) sign_count(total) sign_row(many)
squares: is_form(value) value_of(form,row) ways(form,number) plain_ways(form,number) rows_of(form,number)
thetas: ways_row(form,many) gaps(form,many) form_product(form) joined(form,other) same_ways(form,other)
thetas: first_unlike_ways(form,other)
levels: is_level(value) weight_of(product) shift_of(product) turned(product,level)
fitting: lacks(product,level) fits(product,level) kind_of(product,level) least_level(product)
fitting: fitting_power(product,level) same_kind(level,product,other) fitting_products(level,weight,many)
ends: ends(level) order_at(product,level,end) orders(product,level) is_whole(product,level) is_falling(product,level)
ends: product_with(level,orders)
bounds: sum_of_orders(product,level) least_orders(level,products) bound_of(level,products)
divisorsums: is_divisor_sum(value) divisor_total(word,number) own_level(divisors) divisor_row(divisors,many)
divisorsums: plain_divisor_row(divisors,many)
things: is_thing(value) thing_fits(thing,level) thing_kind(thing,level) thing_shift(thing) thing_row(thing,many)
things: thing_order(thing,level,end)
sums: is_sum(value) sum_of(terms) sum_added(total,other) sum_less(total,other) sum_scaled(total,ratio)
sums: sum_row(level,total,many)
equal: decided_nought(level,total) is_nought(level,total) is_nought_paper(level,total,value)
equal: same_for_ever(level,total,other) decided_same(level,total,other)
combined: told_as(level,thing,others) hang_on(level,things) relations(level,things)
orbits: orbit(product,m,t) orbits(product,m) squares_of(m)
serving: serves(product,m,t,level) why_not(product,m,t,level) least_serving(product,m,t)
lows: low(product,m,end) lows(product,m,level)
clearing: is_clearing(product,m,level,value) least_power(product,m,level,step) bound(product,m,t,level,clearing)
clearing: told_clearing(product,m,t)
dividing: decided_dividing(product,m,t,u) is_dividing_paper(product,m,t,u,value) is_dividing(product,m,t,u)
dividing: orbit_numbers(product,m,t,many)
searching: greatest_divisor(product,m,t) divisors_told(product,m,t,most) all_dividing(product,most,u)
searching: least_dividing(product,most,u) first_dividing(product,most,u) follows(section,other)
tables: table(product,most,u) is_table(product,most,u,value) is_find(product,u,value)
equations: is_terms(product,m,t,value) serves_equation(product,m,t,terms,level)
equations: equation_bound(product,m,t,terms,level) sides(product,m,t,terms,n) decided_equation(product,m,t,terms)
equations: is_equation_paper(product,m,t,terms,value)
looking: found_terms(product,m,t,products) candidates(product,m,t,level,many) looked(product,m,t,level,many)
hecke: placed_row(level,product,many) carried_row(level,product,prime,many) symbol_at(level,product,prime)
hecke: places_asked(level,product)
multiples: decided_multiple(level,product,prime) is_multiple(level,product,prime,number) multiples_to(level,product,most)
multiples: told_by_primes(level,product,target)
judge: judged(value) is_claim(value) claim_words()
records: tree_text(value) record_text(claim) parse_record(text) check_of(text)
commands: is_command(value) is_deed(value) powers_text(product) ratio_text(ratio)
"""

# Values by which each function can be called by the names of its parameters.
RIGHT = {"number": 6, "value": 1, "first": 3, "second": 2, "level": 4, "prime": 7, "one": (1, 2), "other": (1, 3),
         "ratio": (1, 2), "product": ("product", ((1, -1),)), "many": 4, "place": 2, "row": [1, 2], "exponent": 2, "d": 2,
         "m": 2, "t": 1, "kind": ("kind", 1, ((1, 0),)), "part": 3, "text": "modulus 1", "partition": ((3, 0), (1, 0)),
         "position": 1, "fold": 2, "parts": (3, 1), "total": 5, "form": ("squares", (1, 2)), "weight": 1, "end": 2,
         "orders": [(0, 1), (1, 2), (0, 1)], "products": [("product", ((1, -4), (2, 10), (4, -4)))],
         "word": "two", "divisors": ("divisors", "two", 4), "thing": ("divisors", "two", 4),
         "terms": [((1, 2), ("divisors", "two", 4))], "others": [("divisors", "two", 2)], "things": [("divisors", "two", 2)],
         "u": 5, "most": 3, "section": (10, 9), "n": 3, "step": 2, "clearing": (2, 40),
         "claim": ("ways", 1, ()), "target": 15}
# Values that are others in some files.
FITTING = {"product": ("product", ((1, -4), (2, 10), (4, -4))), "other": ("product", ((1, -8), (2, 20), (4, -8)))}
TOTALS = {"total": ("sum", (((1, 2), ("divisors", "two", 4)),)), "other": ("sum", (((1, 2), ("divisors", "two", 2)),))}
SECTION = {"m": 5, "t": 4, "level": 5, "step": 5, "clearing": (1, 5), "terms": ((5, ("product", ((1, -6), (5, 5)))),)}
CARRIED = {"level": 1, "product": ("product", ((1, 24),)), "target": 15}
OTHERS = {"series": {"other": [1, 2]}, "products": {"other": ("product", ())}, "powers": {"other": ("kind", 1, ((1, 1),))},
          "thetas": {"other": ("squares", (1, 1))}, "fitting": FITTING, "ends": FITTING, "bounds": FITTING,
          "sums": TOTALS, "equal": TOTALS, "clearing": SECTION, "dividing": SECTION, "searching": {"m": 5, "t": 4, "other": (5, 4)},
          "equations": SECTION, "looking": {**SECTION, "products": [("product", ((1, -6), (5, 5)))]}, "hecke": CARRIED,
          "multiples": CARRIED, "records": {"text": "etaparts ways\n1\n()\nend 3 9051\n"}}


def listed():
    for line in INTERFACE.strip().split("\n"):
        file, functions = line.split(": ")
        for function in functions.split():
            name, parameters = function.rstrip(")").split("(")
            yield file, name, parameters.split(",") if parameters else []


def is_told_new(value):
    """Whether no list stands anywhere in it twice."""
    found = lists_in(value)
    return len({id(one) for one in found}) == len(found)


def lists_in(value):
    found = [value] if isinstance(value, list) else []
    if isinstance(value, (list, tuple)):
        for part in value:
            found += lists_in(part)
    return found


class TestInterface(Asking):
    def test_each_function_is_defined_in_its_file(self):
        for file, name, parameters in listed():
            with self.subTest(file=file, name=name):
                function = getattr(importlib.import_module("etaparts." + file), name)
                self.assertTrue(inspect.isfunction(function))
                self.assertEqual((function.__module__, function.__name__), ("etaparts." + file, name))
                self.assertEqual(list(inspect.signature(function).parameters), parameters)

    def test_arguments_by_position_and_by_name(self):
        for file, name, parameters in listed():
            with self.subTest(file=file, name=name):
                function = getattr(importlib.import_module("etaparts." + file), name)
                named = {word: OTHERS.get(file, {}).get(word, RIGHT[word]) for word in parameters}
                if (file, name) == ("squares", "value_of"):
                    named["row"] = [3, -1]
                self.assertEqual(repr(function(**named)), repr(function(*named.values())))
                self.nothing_passed_changes(function, named)

    def nothing_passed_changes(self, function, named):
        """What is passed stays as it is, and is no part of the answer; a call told again tells an equal answer."""
        ahead = copy.deepcopy(named)
        first, second = function(**named), function(**named)
        self.assertEqual(repr(first), repr(second))
        self.assertEqual(repr(named), repr(ahead))
        found = lists_in(first)
        self.assertTrue(is_told_new(first))
        passed = [id(one) for value in named.values() for one in lists_in(value)]
        for one in found:
            self.assertNotIn(id(one), passed)
            self.assertNotIn(id(one), [id(other) for other in lists_in(second)])
            one.append("more")
        self.assertEqual(repr(function(**named)), repr(second))


if __name__ == "__main__":
    unittest.main()
