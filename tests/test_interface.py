"""The names, arguments and places of the interface."""

import importlib
import inspect
import unittest

INTERFACE = {
    "tables": {
        "Table": "prime tall wide lines", "times": "one two", "plus": "one two", "scaled": "one number",
        "plain": "prime size", "across": "one", "trace": "one"},
    "solving": {
        "tidy": "one", "rank": "one", "kernel": "one", "solved": "one goal", "determinant": "one", "inverse": "one"},
    "polys": {
        "Poly": "prime wide terms", "letter": "prime wide spot", "constant": "prime wide number",
        "poly_sum": "one other", "poly_product": "one other", "poly_scaled": "one number",
        "poly_power": "one times", "value_at": "one point", "is_level": "one", "layer_of": "one degree",
        "rows_of": "wide degree"},
    "putting": {"put_in": "one others", "slope": "one spot"},
    "houses": {
        "House": "prime wide tables", "is_mild": "house", "has_table": "house thing", "order_of": "table",
        "house_led": "house table", "house_beside": "one other"},
    "leadings": {
        "moved": "table point", "led": "poly table", "orbit_of": "house point", "leading": "house one other",
        "led_lot": "house poly", "is_unswayed": "house poly", "lot_sum": "house poly", "lot_product": "house poly"},
    "means": {"mean": "house poly"},
    "degrees": {"unswayed_of": "house degree", "count_of": "house degree", "led_table": "table degree"},
    "forms": {"form_lot": "house form", "orbit_poly": "house form degree", "form_row": "house form point"},
    "partings": {
        "parting": "house one other", "is_parting": "house one other thing", "parting_degree": "house one other"},
    "orbitcounts": {
        "fixing": "house", "orbits_many": "house times", "orbit_sizes": "house times", "orbits": "house"},
    "partlots": {
        "part_degree": "house", "telling_degree": "house", "telling": "house numbers", "fewest_parting": "house",
        "parts_all": "house polys"},
    "widefields": {
        "WideField": "prime degree", "far_sum": "field one other", "far_product": "field one other",
        "far_power": "field one times", "far_undone": "field one", "far_value": "field poly point",
        "far_moved": "field table point", "frobenius": "field point"},
    "twisted": {
        "exponent": "house", "house_field": "house", "twisted": "house table", "is_stable": "house point",
        "straying": "house point", "far_parting": "house field one other", "stable_orbits": "house"},
    "rowsfar": {
        "row_of": "house", "count_far": "house degree", "row_over": "house degrees", "first_unlike": "one other",
        "row_tells": "wide row", "turned_row": "house", "reads_same": "house"},
    "freelots": {"is_free_lot": "house thing", "free_lot": "house"},
    "others": {"others_of": "house lot", "are_others": "house lot thing", "told_over": "house lot several poly"},
    "mirrors": {
        "is_mirror": "thing", "mirrors_of": "house", "mirror_form": "table", "mirror_way": "table",
        "mirror_number": "table", "mirror_table": "form way number", "walls_of": "house", "wall_product": "house",
        "mirror_house": "house", "is_mirrored": "house", "mirror_classes": "house"},
    "slopes": {"slope_determinant": "polys", "divided": "one other"},
    "alone": {
        "is_alone_lot": "house thing", "alone_lot": "house", "alone_degrees": "house", "more_degree": "house",
        "needed_of": "house degree", "told_alone": "house lot poly"},
    "inner": {
        "is_inner": "house other", "common_house": "one other", "joined_house": "one other", "keeper": "house poly",
        "point_keeper": "house point", "inner_houses": "house", "inner_classes": "house", "index_of": "house inner",
        "share_tables": "house inner"},
    "tolls": {
        "is_toll": "house thing", "tolls_of": "house", "determinant_toll": "house", "toll_product": "house one other",
        "toll_back": "house toll", "untolled": "house", "is_tolled": "house toll poly", "toll_of": "house poly",
        "tolled_of": "house toll degree", "toll_mean": "house toll poly"},
    "tollrows": {
        "toll_row": "house toll", "toll_far": "house toll degree", "toll_others": "house lot toll",
        "are_toll_others": "house lot toll thing", "told_toll": "house lot toll several poly"},
    "tollforms": {"toll_form": "house toll", "form_toll": "house toll"},
    "rests": {
        "left_rows": "house degree", "rest_of": "house poly", "rest_table": "house table degree", "rest_row": "house",
        "toll_makers": "house toll"},
    "slants": {
        "picks_of": "wide grade", "Slant": "prime wide grade parts", "slant_sum": "one other",
        "slant_scaled": "slant poly", "slant_product": "one other", "poly_slant": "poly", "slope_slant": "slant",
        "drop_slant": "slant", "slant_led": "slant table"},
    "slanthouses": {
        "is_unswayed_slant": "house slant", "slants_of": "house grade degree", "slant_mean": "house slant",
        "raised": "house slant", "slant_row": "house grade", "slant_far": "house grade degree"},
    "slantlots": {"lot_slants": "house lot grade", "told_slant": "house lot slant"},
    "families": {"is_family": "thing", "family_size": "word", "family_house": "word"},
}


class InterfaceTest(unittest.TestCase):
    def test_names_and_arguments(self):
        for module, names in INTERFACE.items():
            there = importlib.import_module("unswayed." + module)
            for name, arguments in names.items():
                thing = getattr(there, name)
                self.assertEqual(thing.__module__, "unswayed." + module, name)
                self.assertEqual(inspect.isclass(thing), name[0].isupper(), name)
                self.assertEqual(list(inspect.signature(thing).parameters), arguments.split(), name)


if __name__ == "__main__":
    unittest.main()
