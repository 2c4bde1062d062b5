"""The examples of the interface, with the very answers that stand there."""

import doctest
import unittest

EXAMPLES = r"""
>>> from etaparts.divisors import common_divisor, coprime_count, divisors_of, index_of, is_prime, primes_of, symbol
>>> [divisors_of(12), primes_of(360), coprime_count(12), coprime_count(1), is_prime(91), is_prime(97), common_divisor(-12, 18), common_divisor(0, 0)]
[[1, 2, 3, 4, 6, 12], [(2, 3), (3, 2), (5, 1)], 4, 1, False, True, 6, 0]
>>> [index_of(1), index_of(12), symbol(2, 7), symbol(-1, 7), symbol(21, 7)]
[1, 24, 1, -1, 0]

>>> from etaparts.ratios import added, compared, divided, is_ratio, less, ratio_of, square_free, times
>>> [is_ratio((2, 4)), is_ratio((0, 1)), is_ratio((1, True)), ratio_of(6, -4), added((1, 2), (1, 3)), less((1, 2), (1, 2)), times((2, 3), (3, 4)), divided((1, 2), (-3, 1))]
[False, True, False, (-3, 2), (5, 6), (0, 1), (1, 2), (-1, 6)]
>>> [compared((1, 2), (2, 3)), compared((-1, 1), (-2, 1)), square_free((8, 1)), square_free((-3, 4)), square_free((1, 6)), square_free((9, 25))]
[-1, 1, 2, -3, 6, 1]

>>> from etaparts.series import first_unlike, number_at, plain_row, product_row, row_at, row_power, rows_added, rows_times, section_of
>>> parts = ("product", ((1, -1),))
>>> [product_row(parts, 8), plain_row(("product", ((1, 1),)), 8), rows_added([1, 1, 2], [1, -1]), rows_times([1, 1, 2, 3], [1, -1, -1, 0])]
[[1, 1, 2, 3, 5, 7, 11, 15], [1, -1, -1, 0, 0, 1, 0, 1], [2, 0], [1, 0, 0, 0]]
>>> [row_power([1, -1, -1, 0], 2), row_at([1, -1, -1], 2, 5), section_of([1, 1, 2, 3, 5, 7, 11, 15], 3, 1), first_unlike([1, 1, 2], [1, 1, 2, 4]), number_at(parts, 7)]
[[1, -2, -1, 2], [1, 0, -1, 0, -1], [1, 5, 15], None, 15]

>>> from etaparts.products import is_product, parting_place, product_at, product_power, product_times
>>> both = ("product", ((1, 1), (2, 3)))
>>> [is_product(both), is_product(("product", ((2, 3), (1, 1)))), is_product(("product", ()))]
[True, False, True]
>>> [product_times(parts, both), product_power(both, -2), product_at(parts, 5), parting_place(parts, ("product", ((1, -1), (3, 2)))), parting_place(both, both)]
[('product', ((2, 3),)), ('product', ((1, -2), (2, -6))), ('product', ((5, -1),)), 3, None]

>>> from etaparts.kinds import colours_of, is_kind, most_of
>>> plain, odd, mixed = ("kind", 1, ((1, 0),)), ("kind", 2, ((0, 0), (1, 0))), ("kind", 3, ((2, 1), (1, 0), (1, 0)))
>>> [is_kind(plain), is_kind(("kind", 2, ((1, 0),))), is_kind(("kind", 1, ((0, 1),))), colours_of(odd, 4), colours_of(mixed, 9), most_of(mixed, 9), most_of(mixed, 10)]
[True, False, False, 0, 2, 1, 0]

>>> from etaparts.kindtexts import kind_text, parse_kind
>>> [parse_kind("modulus 3 # rests\nparts all\ncolours 2 0\nmost 1 0") == mixed, kind_text(mixed), kind_text(odd), parse_kind("modulus 1\nparts all") == plain]
[True, 'modulus 3\nparts all\ncolours 2 0\nmost 1 0\n', 'modulus 2\nparts 1\n', True]

>>> from etaparts.powers import as_product, kind_row, period, plain_kind_row, power_at, powers_row, unlike_place
>>> once = ("kind", 1, ((1, 1),))
>>> [powers_row(once, 4), period(once), kind_row(odd, 8), plain_kind_row(once, 8), unlike_place(odd, once), unlike_place(plain, once), power_at(mixed, 6)]
[[-1, 0, -1, 0], 2, [1, 1, 1, 2, 2, 3, 4, 5], [1, 1, 1, 2, 2, 3, 4, 5], None, 2, 0]
>>> [as_product(plain), as_product(once), as_product(("kind", 5, ((0, 0), (1, 0), (0, 0), (0, 0), (1, 0))))]
[('product', ((1, -1),)), ('product', ((1, -1), (2, 1))), None]

>>> from etaparts.listing import count_row, counts_by_many, is_partition, partition_count, partitions
>>> all_parts, unlike, even = ("kind", 1, ((1, 0),)), ("kind", 1, ((1, 1),)), ("kind", 2, ((1, 0), (0, 0)))
>>> [partitions(unlike, 5), partitions(("kind", 1, ((2, 0),)), 2), partitions(even, 3), partitions(unlike, 0)]
[[((3, 0), (2, 0)), ((4, 0), (1, 0)), ((5, 0),)], [((1, 0), (1, 0)), ((1, 1), (1, 0)), ((1, 1), (1, 1)), ((2, 0),), ((2, 1),)], [], [()]]
>>> [count_row(all_parts, 8), partition_count(all_parts, 100), counts_by_many(all_parts, 4), is_partition(all_parts, ((2, 0), (2, 0))), is_partition(unlike, ((2, 0), (2, 0))), is_partition(all_parts, ((1, 0), (2, 0)))]
[[1, 1, 2, 3, 5, 7, 11, 15], 190569292, [(1, 1), (2, 2), (3, 1), (4, 1)], True, False, False]

>>> from etaparts.ranking import greatest_partition, least_partition, next_partition, partition_at, position_of
>>> [partition_at(all_parts, 4, 2), position_of(all_parts, ((3, 0), (1, 0))), least_partition(all_parts, 3), greatest_partition(unlike, 5), least_partition(even, 3), next_partition(unlike, ((4, 0), (1, 0))), next_partition(unlike, ((5, 0),))]
[((2, 0), (2, 0)), 3, ((1, 0), (1, 0), (1, 0)), ((5, 0),), None, ((5, 0),), None]

>>> from etaparts.glaisher import few_parts, free_parts, gathered, is_few, is_free, is_parts, spread
>>> [is_parts((3, 3, 1)), is_parts((1, 2)), is_parts([2, 1]), is_free(3, (4, 1)), is_few(2, (4, 4)), gathered(2, (7, 7, 1, 1, 1)), spread(2, (14, 2, 1)), gathered(3, (2, 2, 2, 2, 1))]
[True, False, False, True, False, (14, 2, 1), (7, 7, 1, 1, 1), (6, 2, 1)]
>>> [free_parts(2, 5), few_parts(2, 5), free_parts(2, 0), spread(5, ())]
[[(1, 1, 1, 1, 1), (3, 1, 1), (5,)], [(3, 2), (4, 1), (5,)], [()], ()]

>>> from etaparts.conjugates import conjugate, hooks, is_own_conjugate, of_hooks
>>> [conjugate((4, 3, 1)), hooks((4, 3, 1)), conjugate(()), is_own_conjugate((3, 2, 1)), hooks((3, 2, 1)), of_hooks((5, 1)), of_hooks(())]
[(3, 2, 2, 1), (6, 2), (), True, (5, 1), (3, 2, 1), ()]

>>> from etaparts.franklin import exchanged, is_kept, kept_parts, sign_count, sign_row
>>> [exchanged((5, 4, 2)), exchanged((6, 5)), exchanged((3, 2)), exchanged((4, 3)), is_kept((4,)), kept_parts(7), kept_parts(4), kept_parts(0)]
[(6, 5), (5, 4, 2), None, None, False, (4, 3), None, ()]
>>> [exchanged((4,)), exchanged((3, 1)), sign_count(12), sign_row(9)]
[(3, 1), (4,), -1, [1, -1, -1, 0, 0, 1, 0, 1, 0]]

The examples of partitions and of maps that are told in words.

>>> partitions(all_parts, 4)
[((1, 0), (1, 0), (1, 0), (1, 0)), ((2, 0), (1, 0), (1, 0)), ((2, 0), (2, 0)), ((3, 0), (1, 0)), ((4, 0),)]
>>> [is_free(2, (7, 7, 1, 1, 1)), gathered(2, (7, 7, 1, 1, 1)), conjugate((4, 3, 1)), hooks((4, 3, 1)), exchanged((5, 4, 2)), exchanged((6, 5))]
[True, (14, 2, 1), (3, 2, 2, 1), (6, 2), (6, 5), (5, 4, 2)]

>>> from etaparts.squares import is_form, plain_ways, rows_of, value_of, ways
>>> two = ("squares", (1, 1))
>>> [is_form(two), is_form(("squares", (2, 1))), value_of(("squares", (1, 2)), [1, -1]), ways(two, 5), plain_ways(two, 4), ways(two, 3), rows_of(two, 1)]
[True, False, 3, 8, 4, 0, [(-1, 0), (0, -1), (0, 1), (1, 0)]]

>>> from etaparts.thetas import first_unlike_ways, form_product, gaps, joined, same_ways, ways_row
>>> [ways_row(two, 6), gaps(two, 8), joined(two, ("squares", (2,))), same_ways(two, two), first_unlike_ways(("squares", (1, 1, 2)), ("squares", (1, 2, 2)))]
[[1, 4, 4, 0, 4, 8], [3, 6, 7], ('squares', (1, 1, 2)), True, 1]
>>> [form_product(("squares", (1,))), form_product(("squares", (1, 2)))]
[('product', ((1, -2), (2, 5), (4, -2))), ('product', ((1, -2), (2, 3), (4, 3), (8, -2)))]

>>> from etaparts.levels import is_level, shift_of, turned, weight_of
>>> two, all_parts = ("product", ((1, 2), (11, 2))), ("product", ((1, -1),))
>>> [is_level(120), is_level(121), is_level(True), weight_of(two), shift_of(two), weight_of(all_parts), shift_of(all_parts)]
[True, False, False, (2, 1), (1, 1), (-1, 2), (-1, 24)]
>>> [turned(all_parts, 5), turned(("product", ((1, 3), (2, -1))), 4)]
[('product', ((5, -1),)), ('product', ((2, -1), (4, 3)))]

>>> from etaparts.fitting import fits, fitting_power, fitting_products, kind_of, lacks, least_level, same_kind
>>> four, late = ("product", ((1, -4), (2, 10), (4, -4))), ("product", ((1, 1), (23, 1)))
>>> [fits(two, 11), fits(two, 22), fits(two, 5), lacks(two, 5), lacks(all_parts, 1), lacks(four, 4)]
[True, True, False, ['steps'], ['weight', 'shift', 'turned'], []]
>>> [kind_of(two, 11), kind_of(four, 4), kind_of(late, 46), least_level(four), least_level(("product", ((1, 24),))), least_level(all_parts)]
[(2, 1), (1, -1), (1, -23), 4, 1, None]
>>> [fitting_power(all_parts, 1), fitting_power(("product", ((1, 4), (2, 4))), 2), fitting_power(two, 5), same_kind(44, two, ("product", ((2, 2), (22, 2))))]
[24, 2, None, True]
>>> fitting_products(2, 0, 24)
[('product', ()), ('product', ((1, -24), (2, 24))), ('product', ((1, 24), (2, -24)))]

>>> from etaparts.ends import ends, is_falling, is_whole, order_at, orders, product_with
>>> squares = ("product", ((1, -4), (2, 10), (4, -4)))
>>> [ends(4), orders(squares, 4), order_at(squares, 4, 2), is_whole(squares, 4), is_falling(squares, 4)]
[[(1, 1, 4), (2, 1, 1), (4, 1, 1)], [(0, 1), (1, 2), (0, 1)], (1, 2), True, False]
>>> [product_with(4, [(0, 1), (1, 2), (0, 1)]) == squares, product_with(4, [(0, 1), (1, 3), (0, 1)]), is_falling(("product", ((1, 24),)), 1)]
[True, None, True]

>>> from etaparts.bounds import bound_of, least_orders, sum_of_orders
>>> [sum_of_orders(squares, 4), least_orders(4, [squares]), bound_of(4, [squares]), bound_of(1, [("product", ((1, 24),)), ("product", ((1, 24),))])]
[(1, 2), [(0, 1), (1, 2), (0, 1)], (0, 1), (1, 1)]

The examples of levels and of ends that are told in words.

>>> two, four = ("product", ((1, 2), (11, 2))), ("product", ((1, -4), (2, 10), (4, -4)))
>>> [fits(two, 11), kind_of(two, 11), fits(four, 4), kind_of(four, 4), fits(late, 23), kind_of(late, 23)]
[True, (2, 1), True, (1, -1), True, (1, -23)]
>>> [[level for level in range(1, 121) if fits(all_parts, level)], fitting_power(all_parts, 1), fits(("product", ((1, -24),)), 1)]
[[], 24, True]
>>> [ends(4), form_product(("squares", (1, 1))) == four, weight_of(four), orders(four, 4), sum_of_orders(four, 4), index_of(4)]
[[(1, 1, 4), (2, 1, 1), (4, 1, 1)], True, (1, 1), [(0, 1), (1, 2), (0, 1)], (1, 2), 6]

>>> from etaparts.divisorsums import divisor_row, divisor_total, is_divisor_sum, own_level, plain_divisor_row
>>> [divisor_total("third", 7), divisor_total("two", 6), divisor_total("six", 2), is_divisor_sum(("divisors", "two", 1)), is_divisor_sum(("divisors", "third", 41)), own_level(("divisors", "quarter", 3))]
[2, 12, 33, False, False, 12]
>>> [divisor_row(("divisors", "quarter", 1), 6), divisor_row(("divisors", "two", 6), 3), plain_divisor_row(("divisors", "four", 2), 4)]
[[(1, 1), (4, 1), (4, 1), (0, 1), (4, 1), (8, 1)], [(1, 1), (24, 5), (72, 5)], [(1, 1), (0, 1), (240, 1), (0, 1)]]

>>> from etaparts.things import is_thing, thing_fits, thing_kind, thing_order, thing_row, thing_shift
>>> delta, third = ("product", ((1, 24),)), ("divisors", "third", 2)
>>> [thing_fits(delta, 1), thing_fits(third, 3), thing_kind(third, 12), thing_kind(delta, 1), thing_shift(delta), thing_shift(third)]
[True, False, (1, -3), (12, 1), (1, 1), (0, 1)]
>>> [thing_row(delta, 3), thing_row(third, 3), thing_order(delta, 2, 1), thing_order(third, 6, 2), is_thing(("divisors", "six", 0)), is_thing(delta)]
[[(1, 1), (-24, 1), (252, 1)], [(1, 1), (0, 1), (6, 1)], (2, 1), (0, 1), False, True]

>>> from etaparts.sums import is_sum, sum_added, sum_less, sum_of, sum_row, sum_scaled
>>> three, minus, late = ("product", ((1, -8), (2, 20), (4, -8))), ("product", ((1, 8), (2, -4))), ("product", ((2, -4), (4, 8)))
>>> jacobi = ("sum", (((-16, 1), late), ((-1, 1), minus), ((1, 1), three)))
>>> [is_sum(jacobi), sum_of([((1, 1), three), ((-1, 1), minus), ((-16, 1), late)]) == jacobi, sum_of([((1, 2), late), ((-1, 2), late)]), sum_row(4, jacobi, 3)]
[True, True, ('sum', ()), (0, [(0, 1), (0, 1), (0, 1)])]
>>> [sum_scaled(("sum", (((1, 1), late),)), (-16, 1)) == ("sum", jacobi[1][:1]), sum_row(4, ("sum", (((-1, 1), minus), ((1, 1), three))), 2), sum_row(4, ("sum", jacobi[1][:1]), 1)]
[True, (0, [(0, 1), (16, 1)]), (1, [(-16, 1)])]

>>> from etaparts.equal import decided_nought, decided_same, is_nought, is_nought_paper, same_for_ever
>>> [decided_nought(4, jacobi), decided_nought(4, ("sum", jacobi[1][1:])), is_nought(4, ("sum", ())), is_nought_paper(4, jacobi, ("nought", 4, (2, 1)))]
[('nought', 4, (1, 1)), ('place', 1, (16, 1)), True, False]
>>> [same_for_ever(4, ("sum", (((1, 1), three),)), ("sum", (((1, 1), minus), ((16, 1), late)))), decided_same(4, ("sum", (((1, 1), three),)), ("sum", (((1, 1), minus),)))]
[True, ('place', 1, (16, 1))]

>>> from etaparts.combined import hang_on, relations, told_as
>>> [told_as(4, three, [minus, late]), told_as(4, three, [minus]), hang_on(4, [minus, late, three]), relations(4, [late, minus, three])]
[[(1, 1), (16, 1)], None, [2], [(2, [(16, 1), (1, 1)])]]
>>> [told_as(4, three, [("divisors", "two", 4)]), told_as(4, ("product", ((1, -16), (2, 40), (4, -16))), [("divisors", "four", 1), ("divisors", "four", 2), ("divisors", "four", 4)])]
[[(1, 1)], [(1, 15), (-2, 15), (16, 15)]]

>>> from etaparts.orbits import orbit, orbits, squares_of
>>> parts, pairs = ("product", ((1, -1),)), ("product", ((1, -2),))
>>> [squares_of(1), squares_of(5), orbit(parts, 5, 4), orbit(pairs, 5, 2), orbits(pairs, 5)]
[[1], [1, 49], [4], [2, 4], [[0, 1], [2, 4], [3]]]

>>> from etaparts.serving import least_serving, serves, why_not
>>> [serves(parts, 5, 4, 5), serves(parts, 5, 4, 10), why_not(parts, 5, 4, 4), why_not(parts, 25, 0, 5), least_serving(parts, 25, 24), least_serving(parts, 1, 0)]
[True, True, 1, 5, 5, 1]

The examples of divisor sums and of sections that are told in words.

>>> [divisor_row(("divisors", "quarter", 1), 6), ways_row(("squares", (1, 1)), 6)]
[[(1, 1), (4, 1), (4, 1), (0, 1), (4, 1), (8, 1)], [1, 4, 4, 0, 4, 8]]
>>> [orbit(parts, 5, 4), serves(parts, 5, 4, 5), orbit(pairs, 5, 2)]
[[4], True, [2, 4]]

>>> from etaparts.lows import low, lows
>>> [low(parts, 5, 1), low(parts, 5, 5), lows(parts, 1, 2), low(("product", ((1, 24),)), 1, 3)]
[(-5, 24), (-1, 120), [(1, (-1, 24)), (2, (-1, 24))], (1, 1)]

>>> from etaparts.clearing import bound, is_clearing, least_power, told_clearing
>>> parts, threes = ("product", ((1, -1),)), ("product", ((1, -3),))
>>> [is_clearing(parts, 5, 5, (1, 5)), is_clearing(parts, 5, 5, (1, 4)), least_power(parts, 5, 5, 5), bound(parts, 5, 4, 5, (1, 5)), told_clearing(parts, 7, 5), told_clearing(threes, 3, 2)]
[True, False, 25, (0, 1), (7, 1, 7, (1, 1)), (3, 1, 9, (0, 1))]

>>> from etaparts.dividing import decided_dividing, is_dividing, is_dividing_paper, orbit_numbers
>>> [decided_dividing(parts, 5, 4, 5), decided_dividing(parts, 5, 4, 25), decided_dividing(parts, 5, 3, 5), is_dividing(threes, 3, 2, 9)]
[('divisible', 5, 1, 5), ('place', 4, 0, 5), ('place', 0, 0, 1), True]
>>> [orbit_numbers(parts, 5, 4, 3), is_dividing_paper(parts, 5, 4, 5, ("divisible", 5, 1, 6)), is_dividing_paper(parts, 5, 4, 5, ("divisible", 5, 1, 4)), is_dividing_paper(parts, 5, 4, 25, ("place", 4, 2, 135))]
[[(4, [5, 30, 135])], True, False, True]

>>> from etaparts.searching import divisors_told, first_dividing, follows, greatest_divisor, least_dividing
>>> partitions = ("product", ((1, -1),))
>>> [greatest_divisor(partitions, 5, 4), divisors_told(partitions, 5, 4, 20), greatest_divisor(partitions, 5, 3), least_dividing(partitions, 5, 5), first_dividing(partitions, 4, 5)]
[5, [5], 1, [(5, 4)], None]
>>> [follows((10, 9), (5, 4)), follows((10, 8), (5, 4)), follows((5, 4), (5, 4))]
[True, False, False]

>>> from etaparts.tables import is_find, is_table, table
>>> [row[:2] for row in table(partitions, 5, 5)]
[(2, (0, 1)), (3, (0, 1, 2)), (4, (0, 1, 2, 3)), (5, (0, 3)), (5, (1, 2)), (5, (4,))]
>>> [is_table(partitions, 5, 5, table(partitions, 5, 5)), table(partitions, 2, 5), is_find(partitions, 5, (5, 3, 5, 1, 0))]
[True, [(2, (0, 1), ('place', 0, 0, 1))], False]

>>> from etaparts.equations import decided_equation, equation_bound, is_equation_paper, is_terms, serves_equation, sides
>>> five = ((5, ("product", ((1, -6), (5, 5)))),)
>>> [is_terms(all_parts, 5, 4, five), is_terms(all_parts, 5, 3, five), serves_equation(all_parts, 5, 4, five, 5), serves_equation(all_parts, 5, 4, five, 7), equation_bound(all_parts, 5, 4, five, 5)]
[True, False, True, False, (0, 1)]
>>> [sides(all_parts, 5, 4, five, 0), sides(all_parts, 5, 4, five, 1), decided_equation(all_parts, 5, 4, five)]
[(5, 5), (30, 30), ('holds', 5)]
>>> [decided_equation(all_parts, 5, 4, ((4,) + five[0][1:],)), is_equation_paper(all_parts, 5, 4, five, ("holds", 10)), is_equation_paper(all_parts, 5, 4, five, ("holds", 7))]
[('place', 0, 5, 4), True, False]

The examples of lows, of what is divisible and of equations that are told in words.

>>> partitions = ("product", ((1, -1),))
>>> [low(partitions, 5, 1), low(partitions, 5, 5), orbits(partitions, 5), is_dividing(partitions, 5, 4, 5), is_dividing(partitions, 5, 3, 5)]
[(-5, 24), (-1, 120), [[0, 3], [1, 2], [4]], True, False]
>>> [told_clearing(partitions, 5, 4), orbit_numbers(partitions, 5, 4, 1), told_clearing(partitions, 7, 5), orbit_numbers(partitions, 7, 5, 2)]
[(5, 1, 5, (0, 1)), [(4, [5])], (7, 1, 7, (1, 1)), [(5, [7, 77])]]
>>> seven = ((7, ("product", ((1, -4), (7, 3)))), (49, ("product", ((1, -8), (7, 7)))))
>>> [equation_bound(partitions, 7, 5, seven, 7), decided_equation(partitions, 7, 5, seven)]
[(24, 1), ('holds', 7)]

>>> from etaparts.looking import candidates, found_terms, looked
>>> seven = [("product", ((1, -4), (7, 3))), ("product", ((1, -8), (7, 7)))]
>>> [found_terms(all_parts, 7, 5, seven) == ((7, seven[0]), (49, seven[1])), found_terms(all_parts, 7, 5, seven[:1]), candidates(all_parts, 5, 4, 5, 6), looked(all_parts, 5, 4, 5, 6) == five]
[True, None, [(0, ('product', ((1, -6), (5, 5))))], True]

>>> from etaparts.hecke import carried_row, placed_row, places_asked, symbol_at
>>> great, two = ("product", ((1, 24),)), ("product", ((1, 2), (11, 2)))
>>> [placed_row(1, great, 5), carried_row(1, great, 3, 3), symbol_at(1, great, 3), places_asked(1, great)]
[[0, 1, -24, 252, -1472], [0, 252, -6048], 1, 1]
>>> [placed_row(11, two, 10), carried_row(11, two, 3, 4), places_asked(11, two)]
[[0, 1, -2, -1, 2, 1, 2, -2, 0, -2], [0, -1, 2, 1], 2]

>>> from etaparts.multiples import decided_multiple, is_multiple, multiples_to, told_by_primes
>>> [decided_multiple(1, great, 3), decided_multiple(1, ("product", ((1, 48),)), 3), is_multiple(11, two, 3, -1), is_multiple(11, two, 3, 1)]
[('multiple', 252), ('place', 1, -48), True, False]
>>> [multiples_to(11, two, 5), told_by_primes(1, great, 9), told_by_primes(1, great, 15), told_by_primes(11, two, 27)]
[[(3, -1), (5, 1)], -113643, 1217160, 5]

>>> from etaparts.judge import claim_words, is_claim, judged
>>> parts = ("product", ((1, -1),))
>>> [judged(("dividing", parts, 5, 4, 5, 5, 1, 5)), judged(("spoilt", parts, 5, 3, 5, 3, 0)), judged(("spoilt", parts, 5, 4, 5, 4, 0)), judged(None), is_claim(("ways", 5, 5)), claim_words()[:2]]
[('ok', 'dividing'), ('ok', 'spoilt'), ('bad', ()), ('bad', ()), True, [('dividing', 7), ('kinds', 2)]]
>>> [judged(("nought", 1, ("sum", (((1, 1), ("product", ((1, 24),))),)))), judged(("nought", 1, ("sum", ())))]
[('bad', (1,)), ('ok', 'nought')]

>>> from etaparts.records import check_of, parse_record, record_text, tree_text
>>> [tree_text(("sum", (-3, ()))), check_of("ab"), parse_record(record_text(("ways", 5, 5)))]
['(sum (-3 ()))', 3105, ('ways', 5, 5)]

>>> from etaparts.commands import is_command, is_deed, powers_text, ratio_text
>>> [is_command("product p 1:-6,5:5"), is_command("product p 1:-0"), is_command("term s 2/4 p"), is_command("term s -1/2 p"), is_command("kind k modulus 1"), is_deed("row k 5"), is_deed("drop k"), powers_text(("product", ((1, -6), (5, 5)))), powers_text(("product", ())), ratio_text((-1, 24))]
[True, False, False, True, True, False, True, '1:-6,5:5', '1', '-1/24']

>>> from etaparts.desk import Desk
>>> desk = Desk()
>>> desk.do_all("kind k modulus 1\nparts all", "count p k", "show p", "row k 6", "numbers p 6", "divides p 5 4 5", "sum s", "term s 1 p", "term s -1/2 p", "show s", "undo", "show s")
['-', '-', '1:-1', '1 1 2 3 5 7', '1 1 2 3 5 7', 'ever 5 1 5', '-', '-', '-', '1/2 1:-1', 'term s -1/2 p', '1 1:-1']

The examples of equations, primes and commands that are told in words.

>>> partitions, tau = ("product", ((1, -1),)), ("product", ((1, 24),))
>>> [placed_row(1, tau, 7)[1:], decided_multiple(1, tau, 3), placed_row(1, ("product", ((1, 48),)), 3), decided_multiple(1, ("product", ((1, 48),)), 3)]
[[1, -24, 252, -1472, 4830, -6048], ('multiple', 252), [0, 0, 1], ('place', 1, -48)]
>>> decided_multiple(11, ("product", ((1, 2), (11, 2))), 3)
('multiple', -1)
>>> [looked(partitions, 5, 4, 5, 6), looked(partitions, 7, 5, 7, 8)]
[((5, ('product', ((1, -6), (5, 5)))),), ((7, ('product', ((1, -4), (7, 3)))), (49, ('product', ((1, -8), (7, 7)))))]
>>> desk = Desk()
>>> desk.do_all("kind k modulus 4\nparts 1 2 3\nmost 1 2", "count p k")
['-', '-']
>>> desk("row k 50") == desk("numbers p 50")
True
"""


class TestExamples(unittest.TestCase):
    def test_examples(self):
        told = []
        found = doctest.DocTestParser().get_doctest(EXAMPLES, {}, "examples", "test_examples.py", 0)
        results = doctest.DocTestRunner(verbose=False).run(found, out=told.append)
        self.assertGreater(results.attempted, 0)
        self.assertEqual(results.failed, 0, "".join(told))


if __name__ == "__main__":
    unittest.main()
