"""The interface: every name stands where the document lists it, with its arguments."""

import importlib
import inspect
import unittest

FUNCTIONS = {
    "words": (
        "wrap(words, width)", "line_count(words, width)", "longest(words)", "length_of(words)",
        "narrowest(words, lines)",
    ),
    "tables": (
        "check_table(table)", "head_count(table)", "cell_at(table, row, column)", "breakable_rows(table)",
    ),
    "constraints": ("least_positions(count, constraints)", "contradiction(count, constraints)"),
    "columns": ("column_lines_for(table, heights)", "minimum_width(table)"),
    "rows": ("row_lines_for(table, column_lines)", "violations(table, layout)"),
    "sizes": ("sizes(table)", "lowest(table, max_width)", "narrowest_layout(table, max_height)"),
    "pages": (
        "paginate(table, row_lines, page_height)", "page_table(table, first, behind)",
        "page_layout(table, layout, first, behind)",
    ),
    "fewest": ("fewest_pages(table, max_width, page_height)",),
    "drawing": ("draw(table, layout)", "read_drawing(lines)"),
    "manuscripts": ("read_manuscript(text)", "write_manuscript(tables)"),
    "layers": ("turn_layer(layer, axis)", "top_face(layer, columns)", "bottom_face(layer, columns)"),
    "packets": (
        "sheet_packet(number, rows, columns)", "fold(packet, edge, line, way)", "stack(packet, edge, line, way)",
        "turn(packet, axis)", "cut(packet, edge, line)", "pile(packets)", "size_of(packet)",
    ),
    "plans": ("sheets_of(plan)", "evaluate(plan)", "is_complete(plan)", "leaf_order(plan)"),
    "imposition": ("faces(plan)", "impose(plan, pages)", "read_prints(plan, prints)"),
    "creases": ("creases(plan)", "conjugates(plan)", "is_sewable(plan)", "creep(plan)"),
    "finishing": (
        "least_moves(rows, columns)", "halving(rows, columns)", "finishing_order(prints, pages)",
        "cheapest_moves(sheet, pages, fold_cost, stack_cost)",
    ),
    "press": (
        "turn_print(sheet, axis)", "work_and_turn(sheet)", "work_and_tumble(sheet)", "cut_print(sheet, edge, line)",
        "join_prints(first, second, axis)", "printing_method(sheet)",
    ),
    "makeup": ("makeup_of(kinds, counts, pages)", "cheapest_makeup(kinds, pages)"),
    "pipeline": ("pages_of(tables, max_width, page_height)",),
    "paper": (
        "prices(tables, sizes, kinds)", "cheapest_page(tables, sizes, kinds)", "fair_sizes(tables, sizes, kinds)",
    ),
    "reading": ("wanted_marks(job)", "is_good(job, copy)", "read_copy(job, copy)", "texts_of(tables)"),
    "misprints": ("wrong_marks(job, copy)", "accounts_of(job, copy)"),
    "reprints": ("changed_pages(old, new)", "reprints(old, new)", "reprint_cost(old, new)"),
    "wordlist": ("word_list(job)", "leaves_with(job, word)", "write_word_list(job)"),
    "contents": (
        "contents(job)", "write_contents(job)", "table_on(job, page)", "signatures_of(job, table)",
    ),
    "proofs": ("write_print(sheet)", "read_print(text)"),
}
CLASSES = {"errors": ("BookError", "Refused", "BadManuscript"), "bindery": ("Bindery",), "pipeline": ("Job",)}
METHODS = {
    ("bindery", "Bindery"): (
        "__init__(self)", "place(self, sheet)", "work(self, step)", "undo(self)", "packet_count(self)",
        "sizes(self)", "plan(self)", "top_view(self)", "read(self)",
    ),
    ("pipeline", "Job"): (
        "__init__(self, tables, max_width, page_height, kinds)", "pages(self)", "makeup(self)",
        "signature_count(self)", "numbers(self, signature)", "plan(self, signature)", "sheet(self, signature)",
        "finish(self, signature)", "copy(self)", "log(self)", "is_log(self, log)",
    ),
}


class InterfaceTest(unittest.TestCase):
    def test_functions(self):
        for file, signatures in FUNCTIONS.items():
            module = importlib.import_module("boundbook." + file)
            for signature in signatures:
                name = signature.partition("(")[0]
                function = getattr(module, name)
                self.assertEqual(function.__module__, module.__name__)
                self.assertEqual(name + str(inspect.signature(function)), signature)

    def test_classes(self):
        for file, names in CLASSES.items():
            module = importlib.import_module("boundbook." + file)
            for name in names:
                made = getattr(module, name)
                self.assertTrue(inspect.isclass(made))
                self.assertEqual(made.__module__, module.__name__)

    def test_methods_are_defined_in_the_class_itself(self):
        for (file, class_name), signatures in METHODS.items():
            made = getattr(importlib.import_module("boundbook." + file), class_name)
            for signature in signatures:
                name = signature.partition("(")[0]
                self.assertIn(name, vars(made))
                self.assertEqual(name + str(inspect.signature(vars(made)[name])), signature)


if __name__ == "__main__":
    unittest.main()
