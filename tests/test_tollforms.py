"""Point [93], unswayed/tollforms.py."""

import unittest

from tests.tools import (
    NO_OBJECTS, ToolCase, house, mild_houses, slow_determinant, slow_product, small_houses, trivial)
from unswayed.degrees import unswayed_of
from unswayed.mirrors import is_mirrored, mirror_form, mirrors_of, walls_of
from unswayed.polys import constant, poly_power, poly_scaled
from unswayed.slopes import divided
from unswayed.tollforms import form_toll, toll_form
from unswayed.tolls import determinant_toll, is_toll, is_tolled, tolled_of, tolls_of

SIGNED = house(5, [[0, 1], [1, 0]], [[4, 0], [0, 1]])
H = house(5, [[4, 0], [0, 4]])


class TollFormTest(ToolCase):
    def test_second_way(self):
        for name, one in mild_houses().items():
            for toll in tolls_of(one)[:8]:
                total = constant(one.prime, one.wide, 1)
                for form, _, _ in walls_of(one):
                    pairs = [
                        (slow_determinant(each.lines), toll[one.tables.index(each)])
                        for each in mirrors_of(one) if mirror_form(each) == form]
                    step = 0
                    while any((number ** step - value) % one.prime for number, value in pairs):
                        step += 1
                    total = slow_product(total, poly_power(form, step))
                self.assertEqual(self.unchanged(toll_form, one, toll), total, name)

    def test_form_tolls(self):
        for name, one in mild_houses().items():
            tolls = tolls_of(one)
            own = 0
            for toll in tolls:
                found = self.unchanged(form_toll, one, toll)
                self.assertIs(is_toll(one, found), True, name)
                self.assertIs(is_tolled(one, found, toll_form(one, toll)), True, name)
                for each in mirrors_of(one):
                    at = one.tables.index(each)
                    self.assertEqual(found[at], toll[at])
                own += found == toll
                if is_mirrored(one):
                    self.assertEqual(found, toll, name)
            ones = [toll for toll in tolls if all(toll[one.tables.index(each)] == 1 for each in mirrors_of(one))]
            self.assertEqual(own * len(ones), len(tolls), name)

    def test_tolled_polys_are_multiples(self):
        for name, one in mild_houses().items():
            tolls = tolls_of(one)
            for toll in tolls[::max(1, len(tolls) // 4)]:
                form = toll_form(one, toll)
                for degree in range(7 if one.wide < 3 else 5):
                    found = tolled_of(one, toll, degree)
                    factors = [divided(poly, form) for poly in found]
                    self.assertNotIn(None, factors, name)
                    if form_toll(one, toll) == toll:
                        # Then they are the products of the form with the unswayed ones.
                        many = len(unswayed_of(one, degree - form.degree)) if degree >= form.degree else 0
                        self.assertEqual(len(found), many, name)
                    elif degree == form.degree:
                        self.assertNotIn(form, [poly_scaled(poly, n) for poly in found for n in range(1, one.prime)])

    def test_by_hand(self):
        self.assertEqual(len(tolls_of(SIGNED)), 4)
        diagonals = {(2, 0): 1, (0, 2): 4}
        found = toll_form(house=SIGNED, toll=determinant_toll(SIGNED))
        self.assertEqual(found.terms, {(1, 3): 4, (3, 1): 1})
        terms = sorted(sorted(toll_form(SIGNED, toll).terms.items()) for toll in tolls_of(SIGNED))
        self.assertEqual(terms, sorted(sorted(each.items()) for each in (
            {(0, 0): 1}, {(1, 1): 1}, diagonals, {(1, 3): 4, (3, 1): 1})))
        self.assertEqual(toll_form(H, (1, 4)), constant(5, 2, 1))
        self.assertEqual(form_toll(house=H, toll=(1, 4)), (1, 1))
        self.assertEqual(toll_form(house(7, [[3]]), (1, 2, 3, 4, 5, 6)).terms, {(1,): 1})
        self.assertEqual(toll_form(trivial(2, 3), (1,)), constant(2, 3, 1))

    def test_errors(self):
        for call in (toll_form, form_toll):
            for thing in NO_OBJECTS:
                self.refused(("BadHouse", None), call, thing, None)
                self.refused(("BadToll",), call, H, thing)
            self.refused(("NoMean",), call, small_houses()["shear 3 2"], None)
            for toll in ([1, 4], (1, 2), (1, 4, 1), (True, 1)):
                self.refused(("BadToll",), call, H, toll)


if __name__ == "__main__":
    unittest.main()
