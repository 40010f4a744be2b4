import unittest
from itertools import combinations, permutations

from ontoworks.diagrams import (
    asks, both, chosen, either, holds, negation, renumbered, restricted, size, variable, ways)
from tests.faults import kinds

NEVER = ((), 0)
ALWAYS = ((), 1)
EXAMPLE = (((2, 0, 1), (1, 2, 1), (0, 2, 3)), 4)
NUMBERS = (0, 5, 63)
ELSEWHERE = (1, 6, 62)


def subsets(numbers):
    """Return all sets of some numbers, in the order of the numbers in binary that they stand for."""
    found = [()]
    for number in reversed(numbers):
        found += [(number,) + members for members in found]
    return found


def pair(says, numbers):
    """Return the one pair of point 7, from what a function says to all sets of some ascending numbers."""
    rows = []

    def diagram(members, rest):
        told = [says(members + more) for more in subsets(rest)]
        if True not in told:
            return 0
        if False not in told:
            return 1
        without = diagram(members, rest[1:])
        within = diagram(members + rest[:1], rest[1:])
        if without == within:
            return without
        row = (rest[0], without, within)
        if row not in rows:
            rows.append(row)
        return 2 + rows.index(row)

    root = diagram((), numbers)
    return tuple(rows), root


def formula(bits, numbers):
    """Return the function that says to each set of some numbers what a bit of an integer says."""
    order = subsets(numbers)
    return lambda members: bool(bits >> order.index(members) & 1)


# The pairs of all functions of three numbers; a number in binary tells what each of them says.
PAIRS = [pair(formula(bits, NUMBERS), NUMBERS) for bits in range(256)]
SAMPLE = range(0, 256, 3)


class PairTest(unittest.TestCase):
    """The pairs that the other tests expect keep what point 7 says."""

    def test_the_pairs_are_as_the_document_says(self):
        self.assertEqual(len(set(PAIRS)), 256)
        for nodes, root in PAIRS:
            self.assertEqual(len(set(nodes)), len(nodes))
            self.assertTrue(root == len(nodes) + 1 or nodes == () and root in (0, 1))
            for at, (number, without, within) in enumerate(nodes):
                self.assertNotEqual(without, within)
                for below in (without, within):
                    self.assertLess(below, at + 2)
                    self.assertTrue(below < 2 or nodes[below - 2][0] > number)
            written = {below for _, without, within in nodes for below in (without, within)}
            self.assertTrue(all(at + 2 in written or at + 2 == root for at in range(len(nodes))))

    def test_the_order_of_the_nodes(self):
        # First everything without the number, then everything with it, then the node itself.
        without = lambda members: (1 in members) if 0 not in members else (2 in members)
        self.assertEqual(pair(without, (0, 1, 2)), (((1, 0, 1), (2, 0, 1), (0, 2, 3)), 4))
        self.assertEqual(pair(lambda members: 0 not in members, (0, 1)), (((0, 1, 0),), 2))


class BuildingTest(unittest.TestCase):
    def test_variable(self):
        self.assertEqual(variable(3), (((3, 0, 1),), 2))
        for number in (0, 1, 62, 63):
            self.assertEqual(variable(number), (((number, 0, 1),), 2))

    def test_the_example_of_the_document(self):
        self.assertEqual(either(both(variable(0), variable(1)), variable(2)), EXAMPLE)

    def test_negation(self):
        self.assertEqual(negation(NEVER), ALWAYS)
        self.assertEqual(negation(ALWAYS), NEVER)
        self.assertEqual(negation(EXAMPLE), (((2, 1, 0), (1, 2, 0), (0, 2, 3)), 4))
        for bits in range(256):
            self.assertEqual(negation(PAIRS[bits]), PAIRS[255 - bits])

    def test_both_and_either(self):
        for first in SAMPLE:
            for second in range(256):
                self.assertEqual(both(PAIRS[first], PAIRS[second]), PAIRS[first & second])
                self.assertEqual(either(PAIRS[first], PAIRS[second]), PAIRS[first | second])

    def test_never_and_always(self):
        for condition in (NEVER, ALWAYS, variable(0), variable(63), EXAMPLE):
            self.assertEqual(both(condition, NEVER), NEVER)
            self.assertEqual(both(NEVER, condition), NEVER)
            self.assertEqual(both(condition, ALWAYS), condition)
            self.assertEqual(both(ALWAYS, condition), condition)
            self.assertEqual(either(condition, NEVER), condition)
            self.assertEqual(either(NEVER, condition), condition)
            self.assertEqual(either(condition, ALWAYS), ALWAYS)
            self.assertEqual(either(ALWAYS, condition), ALWAYS)

    def test_a_condition_with_itself_and_with_its_negation(self):
        for condition in PAIRS[::7] + [NEVER, ALWAYS, EXAMPLE]:
            self.assertEqual(both(condition, condition), condition)
            self.assertEqual(either(condition, condition), condition)
            self.assertEqual(both(condition, negation(condition)), NEVER)
            self.assertEqual(either(condition, negation(condition)), ALWAYS)

    def test_conditions_about_different_numbers(self):
        everything = tuple(sorted(NUMBERS + ELSEWHERE))
        moved = renumbered_pairs(ELSEWHERE)
        for first in range(0, 256, 37):
            for second in range(0, 256, 41):
                says, other = formula(first, NUMBERS), formula(second, ELSEWHERE)

                def split(members):
                    return (says(tuple(k for k in members if k in NUMBERS)),
                            other(tuple(k for k in members if k in ELSEWHERE)))

                self.assertEqual(both(PAIRS[first], moved[second]),
                                 pair(lambda members: all(split(members)), everything))
                self.assertEqual(either(PAIRS[first], moved[second]),
                                 pair(lambda members: any(split(members)), everything))

    def test_four_numbers(self):
        numbers = (2, 3, 4, 40)
        for bits in range(1, 65536, 997):
            says = formula(bits, numbers)
            halves = [pair(lambda members: says(members) and (number in members), numbers) for number in numbers]
            whole = pair(says, numbers)
            for number, half in zip(numbers, halves):
                self.assertEqual(both(whole, variable(number)), half)
                self.assertEqual(either(half, both(negation(variable(number)), whole)), whole)

    def test_64_numbers(self):
        every, some, odd = ALWAYS, NEVER, NEVER
        for number in range(64):
            one = variable(number)
            every, some = both(one, every), either(some, one)
            odd = either(both(odd, negation(one)), both(negation(odd), one))
        self.assertEqual(every, (tuple((63 - at, 0, at + 1) for at in range(64)), 65))
        self.assertEqual(some[0][0], (63, 0, 1))
        self.assertEqual(size(some), 64)
        self.assertEqual(size(odd), 127)
        self.assertEqual(ways(every, 64), 1)
        self.assertEqual(ways(some, 64), 2 ** 64 - 1)
        self.assertEqual(ways(odd, 64), 2 ** 63)
        self.assertEqual(asks(odd), tuple(range(64)))
        self.assertEqual(restricted(odd, 63, False), restricted(negation(odd), 63, True))

    def test_values(self):
        for condition in (variable(0), negation(EXAMPLE), both(EXAMPLE, variable(9)), either(EXAMPLE, variable(9)),
                          restricted(EXAMPLE, 0, True), chosen(EXAMPLE, 0), renumbered(EXAMPLE, (3, 2, 1))):
            self.assertEqual(kinds(condition), {tuple, int})
            self.assertEqual(len(condition), 2)


def renumbered_pairs(numbers):
    """Return the pairs of all functions of three other ascending numbers."""
    return [pair(formula(bits, numbers), numbers) for bits in range(256)]


class RestrictedTest(unittest.TestCase):
    def test_each_number_in_and_out(self):
        for bits in range(256):
            says = formula(bits, NUMBERS)
            for number in NUMBERS:
                def without(members):
                    return says(tuple(k for k in members if k != number))

                def within(members):
                    return says(tuple(sorted({*members, number})))

                first, second = pair(without, NUMBERS), pair(within, NUMBERS)
                self.assertEqual(restricted(PAIRS[bits], number, False), first)
                self.assertEqual(restricted(PAIRS[bits], number, True), second)
                self.assertNotIn(number, asks(first) + asks(second))
                self.assertEqual(chosen(PAIRS[bits], number),
                                 pair(lambda members: without(members) or within(members), NUMBERS))

    def test_a_number_on_which_the_condition_does_not_depend(self):
        for condition in PAIRS + [NEVER, ALWAYS]:
            for number in (1, 62):
                self.assertEqual(restricted(condition, number, False), condition)
                self.assertEqual(restricted(condition, number, True), condition)
                self.assertEqual(chosen(condition, number), condition)

    def test_by_hand(self):
        self.assertEqual(restricted(EXAMPLE, 0, True), (((2, 0, 1), (1, 2, 1)), 3))
        self.assertEqual(restricted(EXAMPLE, 0, False), variable(2))
        self.assertEqual(restricted(EXAMPLE, 2, True), ALWAYS)
        self.assertEqual(restricted(variable(63), 63, False), NEVER)
        self.assertEqual(chosen(EXAMPLE, 0), either(variable(1), variable(2)))
        self.assertEqual(chosen(EXAMPLE, 2), ALWAYS)
        self.assertEqual(chosen(both(variable(0), variable(63)), 0), variable(63))


class RenumberedTest(unittest.TestCase):
    def table(self, numbers):
        """Return `numbers` for the conditions of PAIRS, with other new numbers where they do not depend on any."""
        rest = [number for number in range(100, 200) if number not in numbers]
        table = rest[:64]
        for old, new in zip(NUMBERS, numbers):
            table[old] = new
        return tuple(table)

    def test_all_orders(self):
        for numbers in permutations((0, 7, 63)):
            for bits in range(256):
                says = formula(bits, NUMBERS)

                def moved(members):
                    return says(tuple(old for old, new in zip(NUMBERS, numbers) if new in members))

                self.assertEqual(renumbered(PAIRS[bits], self.table(numbers)), pair(moved, (0, 7, 63)))

    def test_there_and_back(self):
        for numbers in permutations((0, 1, 2)):
            back = tuple(numbers.index(number) for number in range(3))
            for condition in (EXAMPLE, both(variable(1), negation(variable(2))), NEVER, ALWAYS):
                self.assertEqual(renumbered(renumbered(condition, numbers), back), condition)

    def test_by_hand(self):
        self.assertEqual(renumbered(variable(0), (63,)), variable(63))
        self.assertEqual(renumbered(variable(63), tuple(range(63, -1, -1))), variable(0))
        self.assertEqual(renumbered(EXAMPLE, (0, 1, 2)), EXAMPLE)
        self.assertEqual(renumbered(EXAMPLE, (2, 1, 0)), (((2, 0, 1), (1, 0, 2), (0, 3, 1)), 4))
        self.assertEqual(renumbered(EXAMPLE, (10, 30, 20)), either(both(variable(10), variable(30)), variable(20)))

    def test_a_tuple_that_is_as_short_as_can_be(self):
        for condition in (NEVER, ALWAYS):
            self.assertEqual(renumbered(condition, ()), condition)
            self.assertEqual(renumbered(condition, (4, 2)), condition)
        self.assertEqual(renumbered(both(variable(1), variable(3)), (0, 9, 1, 8)), both(variable(8), variable(9)))

    def test_an_order_in_which_the_condition_is_much_larger(self):
        condition = NEVER
        for number in range(0, 20, 2):
            condition = either(condition, both(variable(number), variable(number + 1)))
        self.assertEqual(size(condition), 20)
        apart = renumbered(condition, tuple(k // 2 + k % 2 * 10 for k in range(20)))
        self.assertEqual(size(apart), 2 ** 11 - 2)
        self.assertEqual(ways(apart, 20), ways(condition, 20))
        self.assertEqual(renumbered(apart, tuple(k % 10 * 2 + k // 10 for k in range(20))), condition)


class AskingTest(unittest.TestCase):
    def test_holds(self):
        for bits in range(256):
            says = formula(bits, NUMBERS)
            for members in subsets(NUMBERS):
                self.assertIs(holds(PAIRS[bits], members), says(members))

    def test_holds_for_the_empty_set(self):
        self.assertIs(holds(NEVER, ()), False)
        self.assertIs(holds(ALWAYS, ()), True)
        self.assertIs(holds(EXAMPLE, ()), False)
        self.assertIs(holds(negation(EXAMPLE), ()), True)

    def test_holds_for_sets_with_other_numbers(self):
        for members in subsets((0, 1, 2)):
            more = tuple(sorted(members + (7, 63)))
            self.assertIs(holds(EXAMPLE, more), holds(EXAMPLE, members))
            self.assertIs(holds(EXAMPLE, members), 2 in members or (0 in members and 1 in members))
        self.assertIs(holds(NEVER, tuple(range(64))), False)
        self.assertIs(holds(ALWAYS, tuple(range(64))), True)

    def test_asks(self):
        self.assertEqual(asks(NEVER), ())
        self.assertEqual(asks(ALWAYS), ())
        self.assertEqual(asks(variable(63)), (63,))
        self.assertEqual(asks(EXAMPLE), (0, 1, 2))
        for bits in range(256):
            says = formula(bits, NUMBERS)
            wanted = [number for number in NUMBERS
                      if any(says(members) != says(tuple(sorted({*members, number}))) for members in subsets(NUMBERS))]
            self.assertEqual(asks(PAIRS[bits]), tuple(wanted))

    def test_each_number_is_told_once(self):
        odd = either(both(variable(4), negation(variable(9))), both(variable(9), negation(variable(4))))
        self.assertEqual(size(odd), 3)
        self.assertEqual(asks(odd), (4, 9))

    def test_size(self):
        self.assertEqual(size(NEVER), 0)
        self.assertEqual(size(ALWAYS), 0)
        self.assertEqual(size(variable(9)), 1)
        self.assertEqual(size(EXAMPLE), 3)

    def test_ways(self):
        self.assertEqual(ways(EXAMPLE, 3), 5)
        self.assertEqual(ways(EXAMPLE, 4), 10)
        numbers = (0, 1, 3)
        for bits in range(256):
            condition = pair(formula(bits, numbers), numbers)
            for count in (4, 5, 6):
                self.assertEqual(ways(condition, count), bin(bits).count("1") * 2 ** (count - 3))

    def test_ways_for_no_numbers_and_for_64(self):
        self.assertEqual(ways(NEVER, 0), 0)
        self.assertEqual(ways(ALWAYS, 0), 1)
        self.assertEqual(ways(NEVER, 64), 0)
        self.assertEqual(ways(ALWAYS, 64), 2 ** 64)
        self.assertEqual(ways(variable(0), 64), 2 ** 63)
        self.assertEqual(ways(variable(63), 64), 2 ** 63)
        self.assertEqual(ways(variable(0), 1), 1)

    def test_ways_of_choices(self):
        # At least two of five.
        condition = NEVER
        for first, second in combinations(range(5), 2):
            condition = either(condition, both(variable(first), variable(second)))
        self.assertEqual(ways(condition, 5), 2 ** 5 - 1 - 5)
        self.assertEqual(size(condition), 8)

    def test_values(self):
        self.assertEqual(kinds(asks(EXAMPLE)), {tuple, int})
        self.assertEqual(kinds((size(EXAMPLE), ways(EXAMPLE, 3))), {tuple, int})


class LargeTest(unittest.TestCase):
    def test_conditions_of_200_nodes(self):
        # Each asks whether a multiple of 7 of its numbers are members, and the second one shares half of the numbers.
        first, second = counting(7, range(0, 33)), counting(7, range(16, 49))
        self.assertGreater(size(first), 190)
        self.assertLess(size(first), 230)
        whole = both(first, second)
        self.assertEqual(either(negation(whole), whole), ALWAYS)
        self.assertEqual(ways(whole, 49) + ways(either(first, second), 49), ways(first, 49) + ways(second, 49))
        self.assertEqual(renumbered(first, tuple(range(32, -1, -1))), first)


def counting(most, numbers):
    """Return the condition that says yes if the number of members among some numbers is a multiple of `most`."""
    states = [ALWAYS] + [NEVER] * (most - 1)
    for number in reversed(numbers):
        one = variable(number)
        states = [either(both(negation(one), states[at]), both(one, states[(at + 1) % most])) for at in range(most)]
    return states[0]


if __name__ == "__main__":
    unittest.main()
