import unittest
from fractions import Fraction
from itertools import permutations

from ontoworks.diagrams import both, either, variable
from ontoworks.reasons import all_reasons, blame, chance, cheapest_repair, reasons, repairs, right, shares
from tests.faults import kinds

NEVER = ((), 0)
ALWAYS = ((), 1)
EXAMPLE = (((2, 0, 1), (1, 2, 1), (0, 2, 3)), 4)
COUNT = 4
CHANCES = (500, 0, 333, 1000)


def subsets(numbers):
    """Return all sets of some numbers in the order of point 5."""
    found = [()]
    for number in numbers:
        found += [members + (number,) for members in found]
    return sorted(found, key=lambda members: (len(members), members))


SETS = subsets(range(COUNT))


def of_reasons(*sets):
    """Return the condition that says yes to the sets that have all members of one of some sets."""
    found = NEVER
    for members in sets:
        case = ALWAYS
        for number in members:
            case = both(case, variable(number))
        found = either(found, case)
    return found


def growing():
    """Return all functions of COUNT numbers that never change from yes to no, each as its least sets."""
    found = [()]
    for members in SETS:
        found += [least + (members,) for least in found
                  if not any(set(members) >= set(other) or set(members) <= set(other) for other in least)]
    return found


# The 168 conditions of four numbers, each with its least reasons, in their order.
CASES = [(of_reasons(*least), least) for least in growing()]
TAKEN = ((), (0,), (1, 3), (0, 1, 2), (0, 1, 2, 3))


def says(least, members):
    return any(set(members) >= set(other) for other in least)


def left(members, removed):
    return tuple(number for number in members if number not in removed)


def numbers_of(least):
    """Return the numbers on which a condition with some least reasons depends."""
    return sorted({number for members in least for number in members})


def fraction(pair):
    """Return a pair as a fraction, which has to be in lowest terms."""
    found = Fraction(*pair)
    assert pair == (found.numerator, found.denominator), pair
    return found


def weight(members, chances):
    """Return the chance that exactly the members of a set are right."""
    found = Fraction(1)
    for number, cases in enumerate(chances):
        found *= Fraction(cases if number in members else 1000 - cases, 1000)
    return found


class CasesTest(unittest.TestCase):
    def test_there_are_as_many_as_there_have_to_be(self):
        self.assertEqual(len({condition for condition, _ in CASES}), 168)


class ReasonsTest(unittest.TestCase):
    def test_the_example_of_the_document(self):
        self.assertEqual(all_reasons(EXAMPLE), ((2,), (0, 1)))
        self.assertEqual(reasons(EXAMPLE, (0, 1, 2)), ((2,), (0, 1)))

    def test_never_and_always(self):
        for taken in ((), (0, 3)):
            self.assertEqual(reasons(NEVER, taken), ())
            self.assertEqual(reasons(ALWAYS, taken), ((),))
        self.assertEqual(all_reasons(NEVER), ())
        self.assertEqual(all_reasons(ALWAYS), ((),))

    def test_axioms_that_are_not_taken(self):
        self.assertEqual(reasons(EXAMPLE, (0, 1)), ((0, 1),))
        self.assertEqual(reasons(EXAMPLE, (0, 2)), ((2,),))
        self.assertEqual(reasons(EXAMPLE, (1,)), ())
        self.assertEqual(reasons(EXAMPLE, ()), ())
        self.assertEqual(reasons(EXAMPLE, (0, 1, 2, 5, 9)), ((2,), (0, 1)))

    def test_the_order_of_sets(self):
        condition = of_reasons((0, 9), (3,), (1, 2), (1, 4, 5), (7,), (0, 2, 4))
        self.assertEqual(all_reasons(condition), ((3,), (7,), (0, 9), (1, 2), (0, 2, 4), (1, 4, 5)))

    def test_all_conditions_of_four_numbers(self):
        for condition, least in CASES:
            wanted = tuple(sorted(least, key=lambda members: (len(members), members)))
            self.assertEqual(all_reasons(condition), wanted)
            for taken in SETS:
                found = reasons(condition, taken)
                self.assertEqual(found, tuple(members for members in wanted if set(members) <= set(taken)))
                self.assertEqual(found != (), says(least, taken))

    def test_ten_numbers(self):
        pairs = tuple((number, number + 5) for number in range(5))
        self.assertEqual(all_reasons(of_reasons(*pairs)), pairs)
        self.assertEqual(all_reasons(of_reasons(tuple(range(10)))), (tuple(range(10)),))

    def test_values(self):
        self.assertEqual(kinds(all_reasons(EXAMPLE) + reasons(EXAMPLE, (0, 1))), {tuple, int})


class RepairsTest(unittest.TestCase):
    def test_the_example_of_the_document(self):
        self.assertEqual(repairs(EXAMPLE, (0, 1, 2)), ((0, 2), (1, 2)))

    def test_never_always_and_no_axiom_taken(self):
        for taken in ((), (0, 1, 2)):
            self.assertEqual(repairs(NEVER, taken), ((),))
            self.assertEqual(repairs(ALWAYS, taken), ())
        self.assertEqual(repairs(EXAMPLE, ()), ((),))

    def test_axioms_that_are_not_taken(self):
        self.assertEqual(repairs(EXAMPLE, (0, 1)), ((0,), (1,)))
        self.assertEqual(repairs(EXAMPLE, (0, 2, 7)), ((2,),))
        self.assertEqual(repairs(EXAMPLE, (0, 7)), ((),))

    def test_all_conditions_of_four_numbers(self):
        for condition, least in CASES:
            for taken in SETS:
                enough = [removed for removed in subsets(taken) if not says(least, left(taken, removed))]
                wanted = tuple(removed for removed in enough
                               if not any(set(other) < set(removed) for other in enough))
                self.assertEqual(repairs(condition, taken), wanted, (least, taken))

    def test_they_meet_each_reason(self):
        for condition, _ in CASES:
            found = reasons(condition, (0, 1, 2, 3))
            for repair in repairs(condition, (0, 1, 2, 3)):
                self.assertTrue(all(set(repair) & set(reason) for reason in found))

    def test_values(self):
        self.assertEqual(kinds(repairs(EXAMPLE, (0, 1, 2))), {tuple, int})


class CheapestRepairTest(unittest.TestCase):
    def test_the_example_of_the_document(self):
        self.assertEqual(cheapest_repair(EXAMPLE, (0, 1, 2), (5, 1, 1)), (2, (1, 2)))
        self.assertIsNone(cheapest_repair(EXAMPLE, (0, 1, 2), (5, 1, None)))

    def test_never_always_and_no_axiom_taken(self):
        self.assertEqual(cheapest_repair(NEVER, (0, 1), (None, 3)), (0, ()))
        self.assertIsNone(cheapest_repair(ALWAYS, (0, 1), (0, 0)))
        self.assertEqual(cheapest_repair(EXAMPLE, (), (None, None, None)), (0, ()))
        self.assertEqual(cheapest_repair(NEVER, (), ()), (0, ()))

    def test_axioms_that_have_to_stay(self):
        self.assertEqual(cheapest_repair(EXAMPLE, (0, 1, 2), (5, None, 1)), (6, (0, 2)))
        self.assertIsNone(cheapest_repair(EXAMPLE, (0, 1, 2), (None, None, 1)))
        self.assertEqual(cheapest_repair(EXAMPLE, (0, 1), (5, 1, None)), (1, (1,)))
        self.assertEqual(cheapest_repair(EXAMPLE, (0,), (None, None, None)), (0, ()))

    def test_zeros(self):
        self.assertEqual(cheapest_repair(EXAMPLE, (0, 1, 2), (0, 0, 0)), (0, (0, 2)))
        self.assertEqual(cheapest_repair(of_reasons((0, 1), (0, 2)), (0, 1, 2), (0, 0, 0)), (0, (0,)))
        self.assertEqual(cheapest_repair(of_reasons((0, 1), (0, 2)), (0, 1, 2), (1, 0, 0)), (0, (1, 2)))

    def test_equal_costs(self):
        self.assertEqual(cheapest_repair(EXAMPLE, (0, 1, 2), (4, 4, 1)), (5, (0, 2)))
        # Of the same cost, the set with fewer members comes first.
        self.assertEqual(cheapest_repair(of_reasons((0, 1), (0, 2), (3, 1), (3, 2)), (0, 1, 2, 3), (1, 1, 1, 1)),
                         (2, (0, 3)))
        self.assertEqual(cheapest_repair(of_reasons((2, 0), (2, 1)), (0, 1, 2), (1, 1, 2)), (2, (2,)))

    def test_all_conditions_of_four_numbers(self):
        for condition, least in CASES:
            for taken in TAKEN:
                for costs in ((1, 1, 1, 1), (0, 2, 1, None), (1000, 1, 0, 0), (None, 0, None, 3)):
                    enough = [(sum(costs[axiom] for axiom in removed), len(removed), removed)
                              for removed in subsets(taken)
                              if not any(costs[axiom] is None for axiom in removed)
                              and not says(least, left(taken, removed))]
                    wanted = (min(enough)[0], min(enough)[2]) if enough else None
                    self.assertEqual(cheapest_repair(condition, taken, costs), wanted, (least, taken, costs))


class BlameTest(unittest.TestCase):
    def test_the_example_of_the_document(self):
        self.assertEqual(blame(EXAMPLE, (0, 1, 2)), ((0, (2,)), (1, (2,)), (2, (0,))))

    def test_never_always_and_no_axiom_taken(self):
        for taken in ((), (0, 1)):
            self.assertEqual(blame(NEVER, taken), ())
            self.assertEqual(blame(ALWAYS, taken), ())
        self.assertEqual(blame(EXAMPLE, ()), ())

    def test_axioms_that_are_not_taken(self):
        self.assertEqual(blame(EXAMPLE, (0, 1)), ((0, ()), (1, ())))
        self.assertEqual(blame(EXAMPLE, (0, 2, 5)), ((2, ()),))
        self.assertEqual(blame(EXAMPLE, (0, 5)), ())

    def test_all_conditions_of_four_numbers(self):
        for condition, least in CASES:
            for taken in TAKEN:
                wanted = []
                for axiom in taken:
                    for others in subsets(taken):
                        rest = left(taken, others)
                        if axiom in rest and says(least, rest) and not says(least, left(rest, (axiom,))):
                            wanted.append((axiom, others))
                            break
                found = blame(condition, taken)
                self.assertEqual(found, tuple(wanted), (least, taken))
                blamed = [axiom for axiom, _ in found]
                self.assertEqual(blamed, numbers_of(reasons(condition, taken)))
                self.assertEqual(blamed, numbers_of(repairs(condition, taken)))


class SharesTest(unittest.TestCase):
    def test_the_example_of_the_document(self):
        self.assertEqual(shares(EXAMPLE, (0, 1, 2)), ((0, (1, 6)), (1, (1, 6)), (2, (2, 3))))

    def test_never_always_and_no_axiom_taken(self):
        for taken in ((), (0, 1)):
            self.assertEqual(shares(NEVER, taken), ())
            self.assertEqual(shares(ALWAYS, taken), ())
        self.assertEqual(shares(EXAMPLE, ()), ())

    def test_zero(self):
        self.assertEqual(shares(EXAMPLE, (0,)), ((0, (0, 1)),))
        self.assertEqual(shares(EXAMPLE, (0, 2)), ((0, (0, 1)), (2, (1, 1))))

    def test_axioms_that_do_not_matter(self):
        self.assertEqual(shares(EXAMPLE, (0, 1, 7)), ((0, (1, 2)), (1, (1, 2))))

    def test_all_conditions_of_four_numbers(self):
        for condition, least in CASES:
            for taken in TAKEN:
                concerned = [axiom for axiom in numbers_of(least) if axiom in taken]
                orders = list(permutations(concerned))
                wins = {axiom: 0 for axiom in concerned}
                for order in orders:
                    for at, axiom in enumerate(order):
                        if says(least, order[:at + 1]) and not says(least, order[:at]):
                            wins[axiom] += 1
                found = shares(condition, taken)
                self.assertEqual([axiom for axiom, _ in found], concerned)
                for axiom, share in found:
                    self.assertEqual(fraction(share), Fraction(wins[axiom], len(orders)))

    def test_ten_numbers(self):
        found = shares(of_reasons(tuple(range(10))), tuple(range(10)))
        self.assertEqual(found, tuple((axiom, (1, 10)) for axiom in range(10)))


class ChanceTest(unittest.TestCase):
    def test_the_example_of_the_document(self):
        self.assertEqual(chance(EXAMPLE, (500, 200, 100)), (19, 100))
        self.assertEqual(right(EXAMPLE, (500, 200, 100)), ((4, 9), (1, 9), (0, 1)))

    def test_never_and_always(self):
        self.assertEqual(chance(NEVER, ()), (0, 1))
        self.assertEqual(chance(ALWAYS, ()), (1, 1))
        self.assertEqual(chance(NEVER, (1000, 5)), (0, 1))
        self.assertEqual(chance(ALWAYS, (0, 5)), (1, 1))
        self.assertEqual(right(NEVER, ()), ())
        self.assertIsNone(right(ALWAYS, ()))
        self.assertIsNone(right(ALWAYS, (0, 5)))
        self.assertEqual(right(NEVER, (0, 1000, 250, 1)), ((0, 1), (1, 1), (1, 4), (1, 1000)))

    def test_chances_0_and_1000(self):
        self.assertEqual(chance(EXAMPLE, (1000, 1000, 0)), (1, 1))
        self.assertEqual(chance(EXAMPLE, (1000, 0, 0)), (0, 1))
        self.assertEqual(chance(EXAMPLE, (1000, 1, 0)), (1, 1000))
        self.assertIsNone(right(EXAMPLE, (0, 0, 1000)))
        self.assertIsNone(right(EXAMPLE, (1000, 1000, 500)))
        self.assertEqual(right(EXAMPLE, (1000, 500, 0)), ((1, 1), (0, 1), (0, 1)))

    def test_axioms_that_do_not_matter(self):
        self.assertEqual(chance(of_reasons((1,)), (7, 250, 9)), (1, 4))
        self.assertEqual(right(of_reasons((1,)), (7, 250, 10)), ((7, 1000), (0, 1), (1, 100)))

    def test_all_conditions_of_four_numbers(self):
        for condition, least in CASES:
            for chances in (CHANCES, (1, 999, 500, 250), (1000, 1000, 1000, 1000), (0, 0, 0, 0)):
                yes = sum(weight(members, chances) for members in SETS if says(least, members))
                self.assertEqual(fraction(chance(condition, chances)), yes)
                found = right(condition, chances)
                if yes == 1:
                    self.assertIsNone(found)
                    continue
                self.assertEqual(len(found), COUNT)
                for axiom, share in enumerate(found):
                    no_and_right = sum(weight(members, chances) for members in SETS
                                       if axiom in members and not says(least, members))
                    self.assertEqual(fraction(share), no_and_right / (1 - yes))

    def test_ten_numbers(self):
        condition = of_reasons(tuple(range(10)))
        self.assertEqual(chance(condition, (999,) * 10), (999 ** 10, 1000 ** 10))
        self.assertEqual(chance(condition, (500,) * 10), (1, 1024))
        self.assertEqual(right(condition, (500,) * 10), ((511, 1023),) * 10)

    def test_values(self):
        self.assertEqual(kinds((chance(EXAMPLE, (1, 2, 3)), right(EXAMPLE, (1, 2, 3)))), {tuple, int})


if __name__ == "__main__":
    unittest.main()
