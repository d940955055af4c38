"""The places, arguments and constants of the interface."""

import importlib
import inspect

from tests.support import Case

FUNCTIONS = {
    "worthstead.exact.ratios": ["is_ratio(value)", "total(ratios)", "mean(ratios)"],
    "worthstead.exact.rows": [
        "is_rows(value)", "rank_of(rows)", "base_of(rows)", "sums_of(rows)", "summed(rows, wanted)",
        "is_summed(rows, wanted, value)", "turned(rows)", "multiplied(rows, others)",
    ],
    "worthstead.tables.joining": ["joined(one, other, keys, *, way='pairs')", "grouped(table, keys, what)"],
    "worthstead.tables.texts": ["write_table(table)", "read_table(text)"],
    "worthstead.formulas.reader": ["read_formula(text)", "write_formula(formula)"],
    "worthstead.formulas.shadows": [
        "shadow_of(formula, kinds)", "is_alike(one, other, kinds)", "parted(one, other, kinds)",
        "is_parted(one, other, kinds, value)", "plain(formula, kinds)", "met(one, other, kinds)",
        "joint(one, other, kinds)",
    ],
    "worthstead.formulas.counts": ["count_of(formula, kinds)"],
    "worthstead.models.codings": ["coding_row(word, total, level)"],
    "worthstead.models.leading": ["leading(model, codings)"],
    "worthstead.models.told": [
        "told(model, wanted)", "is_told(model, wanted, value)", "hanging(model)", "means(model, names, *, at=None)",
    ],
    "worthstead.models.cells": [
        "joined_parts(table, one, other)", "way_between(table, one, other, start, end)",
        "fewest(formula, kinds, levels, cells)",
    ],
    "worthstead.fits.orders": [
        "is_held(formula, kinds, one, other)", "own_part(model, term)", "late_space(model, term)",
        "is_fair(model, order)", "fair_orders(model)", "idle(model)", "is_hanging(model, value)",
    ],
    "worthstead.fits.counts": ["equal_share(blocks, levels)"],
    "worthstead.plans.words": [
        "is_word(p, many, value)", "support(word)", "normal(p, word)", "times(p, word, by)", "plus(p, word, other)",
        "span_of_words(p, many, words)", "reduced(p, many, rows)",
    ],
    "worthstead.plans.making": [
        "struck(p, many, wanted, *, beside=())", "is_right(plan, wanted, *, beside=())",
        "least(p, names, wanted, *, beside=())", "least_with(p, names, wanted, rows, *, beside=())",
        "count_right(p, names, wanted, rows, *, beside=())",
    ],
    "worthstead.plans.blocks": ["folded(plan, shifts)", "side_by_side(one, other)", "squares(p)", "squares_plan(p)"],
    "worthstead.lang.trees": ["is_program(value)", "is_expression(value)"],
    "worthstead.lang.reader": ["read_program(text)", "read_expression(text)"],
    "worthstead.lang.writer": ["write_program(program)", "write_expression(tree)"],
    "worthstead.lang.runs": ["outcome(program)"],
    "worthstead.code.making": ["compiled(program)"],
    "worthstead.code.judge": ["is_sound(value)", "depths(code)"],
}
CLASSES = {
    "worthstead.exact.ratios.Ratio": (
        "(top, bottom=1)",
        "top bottom __add__ __sub__ __mul__ __neg__ __abs__ over is_less __eq__ __bool__ __str__ of_text",
    ),
    "worthstead.exact.spaces.Space": (
        "(width, rows)",
        "width rows __iter__ __len__ __contains__ __eq__ __add__ __and__ part rest behind is_within is_square_to "
        "whole ones",
    ),
    "worthstead.tables.columns.Factor": ("(levels, codes)", "of_names levels codes kind __len__ __eq__"),
    "worthstead.tables.columns.Numbers": ("(ratios)", "ratios kind __len__ __eq__"),
    "worthstead.tables.tables.Table": (
        "(columns, *, total=None)",
        "columns names total kinds __getitem__ __contains__ __len__ __eq__ __str__ worths picked shown with_column "
        "bound ordered cells complete",
    ),
    "worthstead.formulas.formulas.Formula": (
        "(terms, *, response=None)",
        "terms response names __add__ __sub__ with_term without __contains__ __len__ __iter__ __eq__ __str__",
    ),
    "worthstead.formulas.counts.Count": ("(terms)", "terms __add__ __sub__ __call__ __eq__ __str__"),
    "worthstead.models.models.Model": (
        "(table, formula, *, codings=None)",
        "table formula codings kinds levels kept names rows response space row_for span_of __len__ __eq__ __str__",
    ),
    "worthstead.fits.fits.Fit": (
        "(model)", "model weights fitted rests total left foretold sums behind_sums __eq__ __str__",
    ),
    "worthstead.fits.strata.Strata": (
        "(model, blocks)",
        "model blocks spaces __len__ __eq__ __str__ told_in is_told_in sums_in share is_share balanced is_unbalanced",
    ),
    "worthstead.plans.plans.Plan": (
        "(p, names, rows)",
        "p names rows runs __contains__ __len__ __iter__ __eq__ __str__ is_constant is_same constants alias_set "
        "alias_sets moved strength spread lengths distances space_of as_table told_alone",
    ),
    "worthstead.plans.blocks.Blocked": (
        "(plan, words)", "plan words blocks is_lost is_kept lost table_with __len__ __eq__ __str__",
    ),
    "worthstead.trials.relabelings.Relabelings": (
        "(labels, blocks, *, among=False)",
        "labels blocks is_among total is_relabeling counts told_share floor moments pairs __len__ __eq__ __str__",
    ),
    "worthstead.lang.runs.Run": ("(program)", "advance end lines steps names text_of"),
    "worthstead.code.blocks.Block": (
        "(kind, params, slots, rows, text='')", "kind params slots rows text __eq__",
    ),
    "worthstead.code.blocks.Code": ("(blocks)", "blocks __getitem__ __len__ __iter__ __eq__ __str__"),
    "worthstead.machine.machine.Machine": (
        "(code)", "step run_on code end lines steps names place open_total text_of frozen thawed twin",
    ),
    "worthstead.desk.kept.KeptFit": (
        "(table, formula, *, codings=None)",
        "put drop bring take pledge release table formula codings model fit numbers pledges changes steps undo redo twin "
        "__len__ __eq__ __str__",
    ),
    "worthstead.desk.desk.Desk": (
        "()", "lay order lift thing names undo redo twin __contains__ __len__ __eq__",
    ),
}
METHODS = {
    "worthstead.exact.ratios.Ratio": ["of_text(text)", "over(self, other)", "is_less(self, other)"],
    "worthstead.exact.spaces.Space": [
        "part(self, row)", "rest(self, row)", "behind(self, other)", "is_within(self, other)",
        "is_square_to(self, other)", "whole(width)", "ones(width)",
    ],
    "worthstead.tables.columns.Factor": ["of_names(levels, texts)"],
    "worthstead.tables.tables.Table": [
        "worths(self, index)", "picked(self, indices)", "shown(self, names)", "with_column(self, name, column)",
        "bound(self, other)", "ordered(self, names, *, down=())", "cells(self, names, *, full=False)",
        "complete(self, names)",
    ],
    "worthstead.formulas.formulas.Formula": ["with_term(self, term)", "without(self, term)"],
    "worthstead.formulas.counts.Count": ["__call__(self, levels)"],
    "worthstead.models.models.Model": ["row_for(self, worths)", "span_of(self, term)"],
    "worthstead.fits.fits.Fit": ["foretold(self, worths)", "sums(self, *, order=None)", "behind_sums(self)"],
    "worthstead.fits.strata.Strata": [
        "told_in(self, index, wanted)", "is_told_in(self, index, wanted, value)", "sums_in(self, index, *, order=None)",
        "share(self, term)", "is_share(self, term, value)", "balanced(self)", "is_unbalanced(self, value)",
    ],
    "worthstead.plans.plans.Plan": [
        "is_constant(self, word)", "is_same(self, word, other)", "constants(self)", "alias_set(self, word)",
        "alias_sets(self)", "moved(self, word, other)", "strength(self)", "spread(self, term)", "lengths(self)",
        "distances(self)", "space_of(self, word)", "as_table(self)", "told_alone(self, term, beside)",
    ],
    "worthstead.plans.blocks.Blocked": [
        "is_lost(self, word)", "is_kept(self, word)", "lost(self)", "table_with(self, names)",
    ],
    "worthstead.trials.relabelings.Relabelings": [
        "is_relabeling(self, value)", "counts(self, values, label)", "told_share(self, values, label, way)",
        "floor(self, values, label)", "moments(self, values, label)", "pairs(self, values, label, other)",
    ],
    "worthstead.lang.runs.Run": ["advance(self, *, many=None)", "text_of(self, name)"],
    "worthstead.machine.machine.Machine": [
        "step(self)", "run_on(self, *, most=1000000)", "text_of(self, name)", "frozen(self)", "thawed(code, text)",
        "twin(self)",
    ],
    "worthstead.desk.kept.KeptFit": [
        "put(self, row)", "drop(self, number)", "bring(self, term)", "take(self, term)", "pledge(self, weights)",
        "release(self, index)", "undo(self, *, many=1)", "redo(self, *, many=1)", "twin(self)",
    ],
    "worthstead.desk.desk.Desk": [
        "lay(self, name, thing)", "order(self, name, data, formula)", "lift(self, name)", "thing(self, name)",
        "undo(self, *, many=1)", "redo(self, *, many=1)", "twin(self)",
    ],
}
CONSTANTS = {
    "worthstead.exact.ratios": {"MAX_FIGURES": 60, "MAX_DIGITS": 2000},
    "worthstead.exact.rows": {"MAX_ROWS": 512, "MOST_LONG": 64, "ENTRY_DIGITS": 20},
    "worthstead.exact.spaces": {"MAX_WIDTH": 64},
    "worthstead.tables.columns": {"MAX_ROWS": 200, "MAX_LEVELS": 12},
    "worthstead.tables.tables": {"MAX_COLUMNS": 12, "MAX_CELLS": 4096},
    "worthstead.tables.joining": {
        "WAYS": ("all", "left", "pairs", "right"), "WORDS": ("count", "greatest", "least", "mean", "sum"),
    },
    "worthstead.formulas.formulas": {"MAX_NAMES": 9, "MAX_TERMS": 200},
    "worthstead.models.codings": {"CODINGS": ("first", "last", "sum", "steps")},
    "worthstead.models.models": {"MAX_KEPT": 64, "MAX_COLUMNS": 24, "MAX_FIGURES": 6},
    "worthstead.fits.strata": {"MAX_BLOCKS": 6},
    "worthstead.trials.relabelings": {"MAX_TRIAL_ROWS": 40, "MAX_LABELS": 4, "MAX_BLOCKS": 8, "MAX_SUMS": 5000},
    "worthstead.code.blocks": {"MAX_BLOCKS": 2000, "MAX_CODE_ROWS": 20000},
}


def found(path):
    module, _, name = path.rpartition(".")
    return getattr(importlib.import_module(module), name)


class InterfaceTest(Case):
    def test_functions(self):
        for module, signatures in FUNCTIONS.items():
            for signature in signatures:
                name = signature.partition("(")[0]
                function = found(f"{module}.{name}")
                self.assertEqual(function.__module__, module)
                self.assertEqual(name + str(inspect.signature(function)), signature)

    def test_classes(self):
        for path, (signature, names) in CLASSES.items():
            one = found(path)
            self.assertEqual(one.__module__, path.rpartition(".")[0])
            self.assertEqual(str(inspect.signature(one)), signature)
            for name in names.split():
                self.assertIn(name, vars(one), path)

    def test_methods(self):
        for path, signatures in METHODS.items():
            for signature in signatures:
                name = signature.partition("(")[0]
                self.assertEqual(name + str(inspect.signature(getattr(found(path), name))), signature)

    def test_constants(self):
        for module, worths in CONSTANTS.items():
            for name, worth in worths.items():
                self.assertEqual(found(f"{module}.{name}"), worth)
