import itertools
import unittest

from landregister.ranks import put_ahead, stands_first, without


def unit_by_unit(places, one, other):
    """The filling anew, written plainly: one unit of an amount behind the other."""
    units = [charge for charge, amount in places for step in range(amount)]
    wanted = [unit for unit in units if unit == one] + [unit for unit in units if unit == other]
    filled = []
    for charge, amount in places:
        if charge in (one, other):
            here = [wanted.pop(0) for step in range(amount)]
            filled += [(unit, len(list(group))) for unit, group in itertools.groupby(here)]
        else:
            filled.append((charge, amount))
    return filled


class PutAheadTest(unittest.TestCase):
    def test_against_unit_by_unit(self):
        for amounts in itertools.product((1, 2, 4), repeat=4):
            for charges in itertools.product((0, 1, 2), repeat=4):
                places = list(zip(charges, amounts))
                for one, other in itertools.permutations(sorted(set(charges)), 2):
                    self.assertEqual(put_ahead(places, one, other), unit_by_unit(places, one, other))

    def test_what_is_handed_in_stays(self):
        places = [(0, 3), (1, 5)]
        self.assertEqual(put_ahead(places, 1, 0), [(1, 3), (1, 2), (0, 3)])
        self.assertEqual(places, [(0, 3), (1, 5)])


class OrderTest(unittest.TestCase):
    def test_the_first_place_alone_counts(self):
        places = [(4, 1), (2, 1), (4, 9), (3, 1)]
        self.assertTrue(stands_first(places, 4, 2))
        self.assertFalse(stands_first(places, 2, 4))
        self.assertTrue(stands_first(places, 2, 3))
        self.assertFalse(stands_first(places, 3, 4))

    def test_without_a_charge(self):
        self.assertEqual(without([(4, 1), (2, 1), (4, 9)], 4), [(2, 1)])
