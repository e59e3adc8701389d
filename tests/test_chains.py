"""Points [24] to [29] of DOC.md, and what [2] says of them."""

import itertools
import random
import unittest

from samples import NO_COUNTS, NO_ROWS, Odd, check_error, check_interface, tuples_alone
from slideyards import chains
from slideyards.chains import (Chain, Sifted, Stopped, chain_of, is_chain, product_at, sift, size_of, stops_at)
from slideyards.errors import BadNumber, BadRow
from slideyards.lines import back, lean, still, times, values_of, with_product

# All permutations of three numbers: 0 and 1 change places, 1 and 2 do.
SWAPS = ((1, 0, 2), (0, 2, 1))
SWAP_LINES = (("given", 0), ("given", 1), ("times", 0, 1))
SWAP_LEVELS = (((0, None), (1, 0), (2, 2)), ((1, None), (2, 1)), ((2, None),))
SWAP_CHAIN = Chain(SWAP_LINES, SWAP_LEVELS)
# The turns of three numbers alone.
TURN = ((1, 2, 0),)
TURN_LINES = (("given", 0), ("back", 0))
TURN_LEVELS = (((0, None), (1, 0), (2, 1)), ((1, None),), ((2, None),))


def products_of(m, given):
    """All products of given permutations, each with lines' numbers that make it: step by step."""
    known = {still(m): ()}
    waiting = [still(m)]
    for one in waiting:
        for number, other in enumerate(given):
            product = times(one, other)
            if product not in known:
                known[product] = known[one] + (number,)
                waiting.append(product)
    return known


def cases():
    """How many numbers, and given permutations: many kinds of groups."""
    yield from ((0, ()), (0, ((),)), (1, ()), (1, ((0,),)), (3, ()), (4, ((0, 1, 2, 3),) * 2), (3, SWAPS),
                (3, TURN), (4, ((1, 0, 2, 3), (0, 1, 3, 2))), (4, ((1, 0, 3, 2), (2, 3, 0, 1))),
                (5, ((1, 2, 3, 4, 0), (0, 4, 3, 2, 1))), (6, ((1, 2, 0, 3, 4, 5), (3, 4, 5, 0, 1, 2))),
                (5, ((0, 1, 2, 4, 3), (1, 0, 2, 3, 4))), (6, ((1, 2, 3, 4, 5, 0), (1, 0, 2, 3, 4, 5))),
                # Six points, but just the 120 products of five numbers.
                (6, ((1, 2, 3, 4, 0, 5), (0, 5, 3, 2, 4, 1), (0, 4, 3, 5, 1, 2))))
    dice = random.Random(24)
    for _ in range(25):
        m = dice.randrange(1, 6)
        yield m, tuple(tuple(dice.sample(range(m), m)) for _ in range(dice.randrange(4)))
    for _ in range(25):
        # Two numbers at a time change places, so that many groups are small.
        m = dice.randrange(2, 7)
        given = []
        for _ in range(dice.randrange(1, 4)):
            one = list(range(m))
            a, b = dice.sample(range(m), 2)
            one[a], one[b] = b, a
            given.append(tuple(one))
        yield m, tuple(given)


def other_chain(dice, m, given):
    """Another chain: each step is a drawn one of all products that it may be."""
    products = products_of(m, given)
    lines = tuple(("given", number) for number in range(len(given)))
    levels = []
    for level in range(m):
        steps = {}
        for product in dice.sample(sorted(products), len(products)):
            if product[:level] == still(level):
                steps[product[level]] = product
        pairs = [(level, None)]
        for point in sorted(steps):
            if point != level:
                lines = with_product(lines, products[steps[point]])
                pairs.append((point, len(lines) - 1))
        levels.append(tuple(pairs))
    return Chain(lines, levels)


CASES = list(cases())


class InterfaceTest(unittest.TestCase):
    def test_names_and_arguments(self):
        check_interface(self, chains, {
            "Chain": "lines levels", "Stopped": "level point", "Sifted": "points", "sift": "given chain row",
            "product_at": "given chain points", "is_chain": "m given told", "chain_of": "m given",
            "size_of": "chain", "stops_at": "given chain row"})

    def test_classes_keep_what_they_are_given(self):
        for value in (None, 5, "x", (1, [2]), {"a": 1}, Odd()):
            for made in (Chain(value, value), Stopped(value, value), Sifted(value)):
                for name in vars(made):
                    self.assertIs(getattr(made, name), value)
        self.assertEqual(list(vars(Chain(1, 2)).items()), [("lines", 1), ("levels", 2)])
        self.assertEqual(list(vars(Stopped(1, 2)).items()), [("level", 1), ("point", 2)])

    def test_classes_copy_lists(self):
        for made in (Chain([1, [2]], [1, [2]]), Stopped([1, [2]], [1, [2]]), Sifted([1, [2]])):
            for name in vars(made):
                self.assertEqual(getattr(made, name), (1, [2]))
        points = [1]
        made = Sifted(points)
        points.append(2)
        self.assertEqual(made.points, (1,))

    def test_equal_to_themselves_alone(self):
        for make in (lambda: Chain((), ()), lambda: Stopped(0, 1), lambda: Sifted(())):
            made = make()
            self.assertTrue(made == made)
            self.assertFalse(made == make())


class SiftTest(unittest.TestCase):
    def sifted(self, *arguments):
        told = sift(*arguments)
        self.assertIsInstance(told, (Sifted, Stopped))
        return told.points if isinstance(told, Sifted) else ("stopped", told.level, told.point)

    def test_examples(self):
        for row, points in (((0, 1, 2), (0, 1, 2)), ((1, 0, 2), (1, 1, 2)), ((0, 2, 1), (0, 2, 2)),
                            ((2, 0, 1), (2, 1, 2)), ((1, 2, 0), (1, 2, 2)), ((2, 1, 0), (2, 2, 2))):
            self.assertEqual(self.sifted(SWAPS, SWAP_CHAIN, row), points)
            self.assertEqual(self.sifted(SWAPS, SWAP_CHAIN, list(row)), points)
            self.assertIsNone(stops_at(SWAPS, SWAP_CHAIN, row))

    def test_stops(self):
        chain = Chain(TURN_LINES, TURN_LEVELS)
        self.assertEqual(self.sifted(TURN, chain, (1, 2, 0)), (1, 1, 2))
        # Turned back by one, 1 and 2 stand in each other's places.
        self.assertEqual(self.sifted(TURN, chain, (1, 0, 2)), ("stopped", 1, 2))
        self.assertEqual(stops_at(TURN, chain, (1, 0, 2)), 1)
        alone = Chain((), (((0, None),), ((1, None),), ((2, None),)))
        self.assertEqual(self.sifted((), alone, (2, 1, 0)), ("stopped", 0, 2))
        self.assertEqual(stops_at((), alone, (2, 1, 0)), 0)
        self.assertEqual(self.sifted((), alone, (0, 2, 1)), ("stopped", 1, 2))
        self.assertEqual(self.sifted((), alone, (0, 1, 2)), (0, 1, 2))

    def test_steps_that_do_not_lead_to_their_points(self):
        # Just as the words of [25] say, whatever the steps do.
        chain = Chain((("given", 0),), (((1, 0), (2, None)), ((2, 0), (1, None)), ((2, None),)))
        self.assertEqual(self.sifted(TURN, chain, (1, 2, 0)), (1, 1, 2))
        self.assertEqual(self.sifted(TURN, chain, (2, 1, 0)), ("stopped", 2, 0))
        self.assertEqual(self.sifted(TURN, chain, (1, 0, 2)), ("stopped", 2, 0))
        self.assertEqual(self.sifted(TURN, chain, (0, 1, 2)), ("stopped", 0, 0))
        self.assertEqual(stops_at(TURN, chain, (1, 0, 2)), 2)

    def test_no_numbers(self):
        self.assertEqual(self.sifted((), Chain((), ()), ()), ())
        self.assertIsNone(stops_at((), Chain((), ()), ()))

    def test_rows_within_may_be_lists(self):
        chain = Chain(SWAP_LINES, [[list(pair) for pair in level] for level in SWAP_LEVELS])
        self.assertEqual(self.sifted([[1, 0, 2], [0, 2, 1]], chain, [2, 1, 0]), (2, 2, 2))
        self.assertEqual(product_at([[1, 0, 2], [0, 2, 1]], chain, [2, 2, 2]), (2, 1, 0))
        self.assertEqual(size_of(chain), 6)

    def test_fact_a(self):
        dice = random.Random(25)
        for m, given in CASES:
            chain = chain_of(m, given)
            for _ in range(10):
                row = tuple(dice.sample(range(m), m))
                told = sift(given, chain, row)
                if isinstance(told, Sifted):
                    self.assertTrue(tuples_alone(told.points) and isinstance(told.points, tuple))
                    self.assertEqual(product_at(given, chain, told.points), row)
                else:
                    self.assertNotIn(told.point, [pair[0] for pair in chain.levels[told.level]])
                    self.assertEqual(stops_at(given, chain, row), told.level)


class ProductTest(unittest.TestCase):
    def test_examples(self):
        one, other = SWAPS
        self.assertEqual(product_at(SWAPS, SWAP_CHAIN, (1, 2, 2)), times(other, one))
        self.assertEqual(product_at(SWAPS, SWAP_CHAIN, (2, 2, 2)), times(other, times(one, other)))
        self.assertEqual(product_at(SWAPS, SWAP_CHAIN, (0, 1, 2)), (0, 1, 2))

    def test_fewer_points(self):
        self.assertEqual(product_at(SWAPS, SWAP_CHAIN, ()), (0, 1, 2))
        self.assertEqual(product_at(SWAPS, SWAP_CHAIN, (1,)), (1, 0, 2))
        self.assertEqual(product_at(SWAPS, SWAP_CHAIN, [1, 2]), times(SWAPS[1], SWAPS[0]))
        self.assertEqual(product_at((), Chain((), ()), ()), ())

    def test_wrong_points(self):
        bad = [(3,), (-1,), (0, 0), (0, 1, 2, 2), (0, 1, 2, 3), (True,), (False,), (0, True), (0.0,), ("0",),
               (None,), ((0,),), ([],), (0, Odd()), (Odd(),), [0, [1]]]
        for points in bad + list(NO_ROWS):
            check_error(self, BadRow, {"row": points}, product_at, SWAPS, SWAP_CHAIN, points)
        check_error(self, BadRow, {"row": (0,)}, product_at, (), Chain((), ()), (0,))


class IsChainTest(unittest.TestCase):
    def refused(self, m, given, lines, levels):
        told = Chain(lines, levels)
        self.assertIs(is_chain(m, given, told), False, (lines, levels))

    def test_examples(self):
        self.assertIs(is_chain(3, SWAPS, SWAP_CHAIN), True)
        self.assertIs(is_chain(3, [list(one) for one in SWAPS], SWAP_CHAIN), True)
        self.assertIs(is_chain(3, TURN, Chain(TURN_LINES, TURN_LEVELS)), True)
        self.assertIs(is_chain(0, (), Chain((), ())), True)
        self.assertIs(is_chain(0, [()], Chain([("given", 0)], [])), True)
        self.assertIs(is_chain(2, (), Chain((), (((0, None),), ((1, None),)))), True)
        self.assertIs(is_chain(2, ((0, 1),), Chain((), (((0, None),), ((1, None),)))), True)

    def test_lists_that_are_copied(self):
        self.assertIs(is_chain(3, SWAPS, Chain(list(SWAP_LINES), list(SWAP_LEVELS))), True)

    def test_lines_that_no_step_asks_for(self):
        self.assertIs(is_chain(3, SWAPS, Chain(SWAP_LINES + (("back", 2),), SWAP_LEVELS)), True)

    def test_a_line_may_be_many_steps_of_other_kinds(self):
        # The identity as a line does not stand for None, but may make other lines.
        lines = (("given", 0), ("back", 0), ("times", 0, 1), ("times", 2, 0), ("times", 3, 3))
        self.assertIs(is_chain(3, TURN, Chain(lines, (((0, None), (1, 3), (2, 4)),) + TURN_LEVELS[1:])), True)
        self.refused(3, TURN, lines, (((0, 2), (1, 3), (2, 4)),) + TURN_LEVELS[1:])

    def test_all_chains_that_are_told_and_others(self):
        dice = random.Random(26)
        for m, given in CASES:
            self.assertIs(is_chain(m, given, chain_of(m, given)), True)
            self.assertIs(is_chain(m, given, other_chain(dice, m, given)), True)

    def test_wrong_lines(self):
        for lines in (SWAP_LINES[:2], SWAP_LINES + (("back", 3),), SWAP_LINES + (["back", 0],),
                      (("given", 2),) + SWAP_LINES[1:], (("given", False),) + SWAP_LINES[1:], None, Odd(), (),
                      SWAP_LINES + (Odd(),), "lines", (("given", 1), ("given", 0), ("times", 0, 1))):
            self.refused(3, SWAPS, lines, SWAP_LEVELS)

    def test_wrong_levels(self):
        first, second, third = SWAP_LEVELS
        for levels in (
                (), SWAP_LEVELS[:2], SWAP_LEVELS + (((3, None),),), SWAP_LEVELS + ((),), SWAP_LEVELS[::-1],
                (first, second, ()), (first, (), third), (first, second[1:], third), (first, second[::-1], third),
                ((first[0], first[2], first[1]), second, third), (first + first[2:], second, third),
                (first, second, ((2, None), (2, None))), (first, second, ((1, None),)),
                (first, second, ((2, 0),)), (first, second, ((2, 3),)), (first, second, ((None, None),)),
                (first, ((1, None), (2, 0)), third), (first, ((1, None), (2, 2)), third),
                (((0, None), (1, 2), (2, 0)), second, third), (first, ((0, 0), (1, None), (2, 1)), third),
                (first, ((1, None), (2, None)), third), (first, ((1, None), (2, 3)), third),
                (first, ((1, None), (2, -2)), third), (((0, None), (1, False), (2, 2)), second, third),
                (first, ((1, None), (2, True)), third), (((False, None),) + first[1:], second, third),
                (((0, None), (True, 0), (2, 2)), second, third), (first, ((True, None), (2, 1)), third),
                (first, ((1, None), (2.0, 1)), third), (first, ((1, None), (2, 1.0)), third),
                (first, ((1.0, None), (2, 1)), third), (first, ((1, None), (2, 1, 0)), third),
                (first, ((1,), (2, 1)), third), (first, ((1, None, None), (2, 1)), third),
                (first, ((1, None), [2, 1]), third), (first, [(1, None), (2, 1)], third),
                (first, ([1, None], (2, 1)), third), (first, ((1, None), Odd()), third),
                (first, (Odd(), (2, 1)), third), (first, ((Odd(), None), (2, 1)), third),
                (first, ((1, Odd()), (2, 1)), third), (first, ((1, None), (Odd(), 1)), third),
                (first, ((1, None), (2, Odd())), third), (first, Odd(), third), (first, None, third),
                (first, ((1, None), (2, "1")), third), (first, {1: None, 2: 1}, third), Odd(), None, 3, "abc", {}):
            self.refused(3, SWAPS, SWAP_LINES, levels)

    def test_the_identity_as_a_line_is_no_first_step(self):
        first, second, third = SWAP_LEVELS
        lines = SWAP_LINES + (("times", 0, 0),)
        self.assertIs(is_chain(3, SWAPS, Chain(lines, SWAP_LEVELS)), True)
        for level in (((0, None), (1, 3), (2, 1)), ((1, 3), (2, 1)), ((1, None), (1, 3), (2, 1)), ((0, None), (1, 3))):
            self.refused(3, SWAPS, lines, (first, level, third))

    def test_given_ones_that_do_not_sift(self):
        alone = (((0, None),), ((1, None),), ((2, None),))
        self.refused(3, SWAPS, SWAP_LINES, alone)
        self.assertIs(is_chain(3, (), Chain((), alone)), True)
        self.refused(3, ((0, 2, 1),), (), alone)
        # All products of the first given one sift, and those of the levels do, but not the second one.
        levels = (((0, None), (1, 0)), ((1, None),), ((2, None),))
        self.assertIs(is_chain(3, SWAPS[:1], Chain((("given", 0),), levels)), True)
        self.refused(3, SWAPS, (("given", 0),), levels)

    def test_products_that_do_not_sift(self):
        # Of a step with itself: 0 goes to 2.
        self.refused(3, TURN, TURN_LINES, (((0, None), (1, 0)), ((1, None),), ((2, None),)))
        # Of a step with one of a later level alone.
        levels = (((0, None), (1, 0)), ((1, None), (2, 1)), ((2, None),))
        self.refused(3, SWAPS, SWAP_LINES, levels)
        # Of two steps of a later level: 1, 2, 3 in turn, and no step from 1 to 3.
        given = ((0, 2, 3, 1),)
        self.refused(4, given, (("given", 0),), (((0, None),), ((1, None), (2, 0)), ((2, None),), ((3, None),)))

    def test_chains_of_too_few_products(self):
        for m, given in CASES:
            chain = chain_of(m, given)
            for level, pairs in enumerate(chain.levels):
                for pair in pairs[1:]:
                    rest = tuple(item for item in pairs if item != pair)
                    self.refused(m, given, chain.lines,
                                 chain.levels[:level] + (rest,) + chain.levels[level + 1:])

    def test_chains_of_other_given_ones(self):
        self.assertIs(is_chain(3, SWAPS[:1], SWAP_CHAIN), False)
        self.assertIs(is_chain(3, SWAPS[::-1], SWAP_CHAIN), False)
        self.assertIs(is_chain(4, ((1, 0, 2, 3), (0, 2, 1, 3)), SWAP_CHAIN), False)
        self.assertIs(is_chain(3, TURN, SWAP_CHAIN), False)

    def test_any_values(self):
        class Like:
            lines, levels = SWAP_LINES, SWAP_LEVELS

        for told in NO_ROWS + (Like(), Chain, (SWAP_LINES, SWAP_LEVELS), [SWAP_CHAIN], Sifted(()), Stopped(0, 0)):
            self.assertIs(is_chain(3, SWAPS, told), False)

    def test_errors(self):
        bad = [SWAPS + (one,) for one in ((0, 1), (), (0, 1, 2, 3), (0, 0, 1), (0, 1, 3), (0, True, 2), [0, 1, 1],
                                          (0, 1, 2.0), None, "012", {}, Odd(), (0, 1, Odd()))]
        for m in NO_COUNTS:
            for given in (SWAPS, None):
                check_error(self, BadNumber, {"what": "m", "number": m}, is_chain, m, given, SWAP_CHAIN)
                check_error(self, BadNumber, {"what": "m", "number": m}, chain_of, m, given)
        for given in bad + list(NO_ROWS):
            for told in (SWAP_CHAIN, None):
                check_error(self, BadRow, {"row": given}, is_chain, 3, given, told)
            check_error(self, BadRow, {"row": given}, chain_of, 3, given)


class ChainOfTest(unittest.TestCase):
    def test_tuples_alone(self):
        for m, given in CASES:
            chain = chain_of(m, [list(one) for one in given])
            self.assertIsInstance(chain, Chain)
            self.assertTrue(tuples_alone(chain.lines) and tuples_alone(chain.levels))
            self.assertIs(is_chain(m, given, chain), True)

    def test_arguments_stay(self):
        given = [[1, 0, 2], [0, 2, 1]]
        chain = chain_of(3, given)
        sift(given, chain, [0, 1, 2])
        is_chain(3, given, chain)
        self.assertEqual(given, [[1, 0, 2], [0, 2, 1]])

    def test_like_results(self):
        for m, given in CASES:
            one, other = chain_of(m, given), chain_of(m, given)
            self.assertEqual((one.lines, one.levels), (other.lines, other.levels))

    def test_sizes(self):
        for (m, given), size in (((0, ()), 1), ((0, ((),)), 1), ((4, ()), 1), ((3, SWAPS), 6), ((3, TURN), 3),
                                 ((4, ((0, 1, 2, 3),)), 1), ((5, ((1, 2, 3, 4, 0), (0, 4, 3, 2, 1))), 10)):
            self.assertEqual(size_of(chain_of(m, given)), size)
        self.assertEqual(size_of(Chain((), ())), 1)
        self.assertEqual(size_of(SWAP_CHAIN), 6)

    def test_facts_b_and_c(self):
        dice = random.Random(28)
        for m, given in CASES:
            chain = chain_of(m, given)
            products = products_of(m, given)
            self.assertEqual(size_of(chain), len(products))
            rows = list(itertools.permutations(range(m)))
            for row in rows if m < 5 else dice.sample(rows, 40):
                self.assertEqual(isinstance(sift(given, chain, row), Sifted), row in products)
            levels = [[pair[0] for pair in level] for level in chain.levels]
            made = [product_at(given, chain, points) for points in itertools.product(*levels)]
            self.assertEqual(sorted(made), sorted(products))

    def test_each_product_sifts(self):
        for m, given in CASES:
            chain = chain_of(m, given)
            for product in list(products_of(m, given))[:200]:
                self.assertIsNone(stops_at(given, chain, product))

    def test_fact_d(self):
        for m, given in CASES:
            products = products_of(m, given)
            for chain in (chain_of(m, given), other_chain(random.Random(m), m, given)):
                for level, pairs in enumerate(chain.levels):
                    points = {product[level] for product in products if product[:level] == still(level)}
                    self.assertEqual([pair[0] for pair in pairs], sorted(points))

    def test_fact_e(self):
        dice = random.Random(27)
        for m, given in CASES:
            chain, other = chain_of(m, given), other_chain(dice, m, given)
            self.assertEqual(size_of(chain), size_of(other))
            for _ in range(10):
                row = tuple(dice.sample(range(m), m))
                self.assertEqual(stops_at(given, chain, row), stops_at(given, other, row))

    def test_no_lines_without_use(self):
        for m, given in CASES:
            chain = chain_of(m, given)
            ends = [line for level in chain.levels for _, line in level if line is not None]
            asked = {number for end in ends for number in asked_for(chain.lines, end)}
            self.assertEqual(sorted(asked), list(range(len(chain.lines))))


def asked_for(lines, end):
    if lines[end][0] == "given":
        return {end}
    return {end}.union(*[asked_for(lines, number) for number in lines[end][1:]])


class LargeTest(unittest.TestCase):
    def test_four_hundred_given_ones_of_nine(self):
        dice = random.Random(29)
        given = tuple(tuple(dice.sample(range(9), 9)) for _ in range(400))
        chain = chain_of(9, given)
        self.assertEqual(size_of(chain), 362880)
        self.assertIs(is_chain(9, given, chain), True)
        self.assertLessEqual(len(chain.lines), 4000)
        row = tuple(dice.sample(range(9), 9))
        self.assertEqual(product_at(given, chain, sift(given, chain, row).points), row)

    def test_even_ones_of_nine(self):
        given = tuple(tuple(a if i == c else b if i == a else c if i == b else i for i in range(9))
                      for a, b, c in itertools.combinations(range(9), 3))
        chain = chain_of(9, given)
        self.assertEqual(size_of(chain), 181440)
        self.assertEqual(stops_at(given, chain, (0, 1, 2, 3, 4, 5, 6, 8, 7)), 7)
        self.assertIsNone(stops_at(given, chain, (1, 0, 2, 3, 4, 5, 6, 8, 7)))

    def test_chains_of_many_lines(self):
        given = ((1, 2, 3, 4, 5, 6, 7, 8, 0), (1, 0, 2, 3, 4, 5, 6, 7, 8))
        chain = chain_of(9, given)
        many = 4000 - len(chain.lines)
        long = Chain(chain.lines + (("times", 0, 1),) * many, chain.levels)
        self.assertIs(is_chain(9, given, long), True)
        self.assertEqual(values_of(given, lean(long.lines))[-1], values_of(given, long.lines)[-1])
        self.assertIsNone(stops_at(given, long, back(given[0])))


if __name__ == "__main__":
    unittest.main()
