"""The names, arguments and places of the interface."""

import importlib
import inspect
import unittest

INTERFACE = {
    "tables": {
        "Table": "prime tall wide lines", "times": "one two", "plus": "one two", "scaled": "one number",
        "plain": "prime size", "across": "one", "trace": "one"},
    "solving": {
        "tidy": "one", "rank": "one", "kernel": "one", "solved": "one goal", "determinant": "one", "inverse": "one"},
    "polys": {
        "Poly": "prime wide terms", "letter": "prime wide spot", "constant": "prime wide number",
        "poly_sum": "one other", "poly_product": "one other", "poly_scaled": "one number",
        "poly_power": "one times", "value_at": "one point", "is_level": "one", "layer_of": "one degree",
        "rows_of": "wide degree"},
    "putting": {"put_in": "one others", "slope": "one spot"},
    "houses": {
        "House": "prime wide tables", "is_mild": "house", "has_table": "house thing", "order_of": "table",
        "house_led": "house table", "house_beside": "one other"},
    "leadings": {
        "moved": "table point", "led": "poly table", "orbit_of": "house point", "leading": "house one other",
        "led_lot": "house poly", "is_unswayed": "house poly", "lot_sum": "house poly", "lot_product": "house poly"},
    "means": {"mean": "house poly"},
    "degrees": {"unswayed_of": "house degree", "count_of": "house degree", "led_table": "table degree"},
    "forms": {"form_lot": "house form", "orbit_poly": "house form degree", "form_row": "house form point"},
    "partings": {
        "parting": "house one other", "is_parting": "house one other thing", "parting_degree": "house one other"},
    "orbitcounts": {
        "fixing": "house", "orbits_many": "house times", "orbit_sizes": "house times", "orbits": "house"},
    "partlots": {
        "part_degree": "house", "telling_degree": "house", "telling": "house numbers", "fewest_parting": "house",
        "parts_all": "house polys"},
    "widefields": {
        "WideField": "prime degree", "far_sum": "field one other", "far_product": "field one other",
        "far_power": "field one times", "far_undone": "field one", "far_value": "field poly point",
        "far_moved": "field table point", "frobenius": "field point"},
    "twisted": {
        "exponent": "house", "house_field": "house", "twisted": "house table", "is_stable": "house point",
        "straying": "house point", "far_parting": "house field one other", "stable_orbits": "house"},
    "rowsfar": {
        "row_of": "house", "count_far": "house degree", "row_over": "house degrees", "first_unlike": "one other",
        "row_tells": "wide row", "turned_row": "house", "reads_same": "house"},
    "freelots": {"is_free_lot": "house thing", "free_lot": "house"},
    "others": {"others_of": "house lot", "are_others": "house lot thing", "told_over": "house lot several poly"},
    "mirrors": {
        "is_mirror": "thing", "mirrors_of": "house", "mirror_form": "table", "mirror_way": "table",
        "mirror_number": "table", "mirror_table": "form way number", "walls_of": "house", "wall_product": "house",
        "mirror_house": "house", "is_mirrored": "house", "mirror_classes": "house"},
    "slopes": {"slope_determinant": "polys", "divided": "one other"},
    "alone": {
        "is_alone_lot": "house thing", "alone_lot": "house", "alone_degrees": "house", "more_degree": "house",
        "needed_of": "house degree", "told_alone": "house lot poly"},
    "inner": {
        "is_inner": "house other", "common_house": "one other", "joined_house": "one other", "keeper": "house poly",
        "point_keeper": "house point", "inner_houses": "house", "inner_classes": "house", "index_of": "house inner",
        "share_tables": "house inner"},
    "tolls": {
        "is_toll": "house thing", "tolls_of": "house", "determinant_toll": "house", "toll_product": "house one other",
        "toll_back": "house toll", "untolled": "house", "is_tolled": "house toll poly", "toll_of": "house poly",
        "tolled_of": "house toll degree", "toll_mean": "house toll poly"},
    "tollrows": {
        "toll_row": "house toll", "toll_far": "house toll degree", "toll_others": "house lot toll",
        "are_toll_others": "house lot toll thing", "told_toll": "house lot toll several poly"},
    "tollforms": {"toll_form": "house toll", "form_toll": "house toll"},
    "rests": {
        "left_rows": "house degree", "rest_of": "house poly", "rest_table": "house table degree", "rest_row": "house",
        "toll_makers": "house toll"},
    "slants": {
        "picks_of": "wide grade", "Slant": "prime wide grade parts", "slant_sum": "one other",
        "slant_scaled": "slant poly", "slant_product": "one other", "poly_slant": "poly", "slope_slant": "slant",
        "drop_slant": "slant", "slant_led": "slant table"},
    "slanthouses": {
        "is_unswayed_slant": "house slant", "slants_of": "house grade degree", "slant_mean": "house slant",
        "raised": "house slant", "slant_row": "house grade", "slant_far": "house grade degree"},
    "slantlots": {"lot_slants": "house lot grade", "told_slant": "house lot slant"},
    "families": {"is_family": "thing", "family_size": "word", "family_house": "word"},
    "familylots": {
        "family_lot": "word", "family_others": "word", "family_count": "word degree", "family_told": "word poly"},
    "makers": {
        "makers_of": "house lot", "are_makers": "house lot thing", "are_fewest": "house lot thing",
        "written": "house lot makers poly"},
    "equations": {
        "equations_of": "house lot makers", "are_equations": "house lot makers thing",
        "followed": "house lot makers several poly"},
    "solutions": {"solutions_of": "prime wide polys", "source_of": "house lot makers numbers"},
    "powersums": {
        "power_sum": "house form times", "spread_of": "house form", "as_power_sums": "house poly",
        "power_makers": "house lot"},
    "lotparts": {"lot_parting": "one other", "is_lot_parting": "one other thing"},
    "ownpolys": {
        "kept_number": "house inner degree", "own_degree": "house inner", "own_poly": "house inner"},
    "steps": {
        "led_equation": "house poly", "step_poly": "house inner polys", "is_step": "house inner polys",
        "step_told": "house inner polys poly", "mean_over": "house inner poly", "more_of": "house inner degree"},
    "placed": {"kept_points": "house inner times", "placed_orbits": "house times"},
    "changes": {
        "sign_of": "table", "signs_of": "house", "change": "one other", "is_change": "one other thing",
        "what_parts": "one other"},
    "live": {"is_deed": "thing", "LiveHouse": "prime wide"},
    "texts": {"house_text": "house", "house_of_text": "text", "poly_text": "poly", "poly_of_text": "text"},
    "deedtexts": {"deed_text": "deed", "deed_of_text": "prime wide text"},
    "journals": {"journal_text": "live", "led_live": "text"},
    "desk": {"Desk": "prime wide"},
}
METHODS = {
    ("live", "LiveHouse"): {
        "do": "deed", "deeds": "", "undo": "", "redo": "", "watch_poly": "name poly", "watch_point": "name point",
        "unwatch": "name", "told": "", "together": "", "mark": "name", "marks": "", "marked": "name", "since": "name"},
    ("desk", "Desk"): {"say": "line"},
}
ATTRIBUTES = {
    ("live", "LiveHouse"): "prime wide makers house standing", ("desk", "Desk"): "live",
}


class InterfaceTest(unittest.TestCase):
    def test_names_and_arguments(self):
        for module, names in INTERFACE.items():
            there = importlib.import_module("unswayed." + module)
            for name, arguments in names.items():
                thing = getattr(there, name)
                self.assertEqual(thing.__module__, "unswayed." + module, name)
                self.assertEqual(inspect.isclass(thing), name[0].isupper(), name)
                self.assertEqual(list(inspect.signature(thing).parameters), arguments.split(), name)

    def test_methods_stand_in_their_class(self):
        for (module, name), methods in METHODS.items():
            there = getattr(importlib.import_module("unswayed." + module), name)
            for method, arguments in methods.items():
                self.assertIn(method, vars(there), name)
                self.assertEqual(list(inspect.signature(vars(there)[method]).parameters), ["self"] + arguments.split(), method)

    def test_attributes_are_set_when_an_object_is_created(self):
        for (module, name), words in ATTRIBUTES.items():
            thing = getattr(importlib.import_module("unswayed." + module), name)(5, 2)
            self.assertLessEqual(set(words.split()), set(vars(thing)), name)


if __name__ == "__main__":
    unittest.main()
