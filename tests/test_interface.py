"""The names and arguments of the interface are there as the document tells them."""

import importlib
import inspect
import unittest

FUNCTIONS = {
    "mills": ["word_code(mill, late, word)", "face(mill, late, word)", "fits(mill, late, word, size)",
              "code_word(mill, late, code)"],
    "trays": ["look_at_letters(mill, letters)", "look_at_plan(mill, letters, plan)", "trays(mill, letters, plan)",
              "end_row(mill, letters, plan)", "place_of(mill, letters, plan, letter)"],
    "least": ["open_places(mill, letters, letter)", "next_place(mill, letters, letter, beyond)",
              "least_plan(mill, letters, wish)"],
    "chains": ["chain_places(mill, letters, chain)", "bars(mill, letters, wish, chain)",
               "does(mill, letters, wish, plan)"],
    "fewest": ["first_passes(mill, count)", "fewest(mill, letters, wish)", "fewest_holds(mill, letters, wish, told)",
               "codes_needed(letters, wish)"],
    "counting": ["faces(mill)", "stretches(mill, row)", "come_to(mill, row)", "many_rows(mill, m)",
                 "row_at(mill, m, number)", "number_of(mill, row)"],
    "joins": ["end_from(mill, plan, coming)", "classes(mill, plan)", "parting(mill, plan, other_mill, other_plan)",
              "mill_behind(mill, other)", "plan_behind(plan, other)", "into_queues(mill, plan)"],
    "prices": ["cost_of(mill, letters, plan, prices)", "least_table(mill, letters, wish, prices)",
               "cheapest(mill, letters, wish, prices)", "table_shows(mill, letters, wish, prices, cost, table)"],
    "pages": ["page_number(word)", "words_of(row)", "read_page(text)", "page_text(page)"],
    "answers": ["answered(text)", "priced(text)", "read_answer(page, text)", "looked(text, answer)"],
}
CLASSES = {
    "mills": ("Mill(passes)", ["codes()", "many()"]),
    "wishes": ("Wish(letters, groups)", ["levels()", "level_of(letter)", "behind(one, other)", "breach(row)",
                                         "kept_by(row)", "one_order()"]),
    "pages": ("Page(mill, names, letters, wish, prices)", []),
    "desk": ("Desk(passes)", ["put(name, size, late)", "take(name)", "follow(name, other)", "share(name, other)",
                              "order(name, kind)", "undo()", "names_told()", "letters_told()", "groups_told()",
                              "answer()", "deeds()", "text()"]),
}


def module_of(name):
    return importlib.import_module("pocketmill." + name)


class Interface(unittest.TestCase):
    def same_form(self, holder, form, drop=()):
        name = form.partition("(")[0]
        arguments = [word for word in inspect.signature(getattr(holder, name)).parameters if word not in drop]
        self.assertEqual(f"{name}({', '.join(arguments)})", form)

    def test_functions(self):
        for name, forms in FUNCTIONS.items():
            for form in forms:
                self.same_form(module_of(name), form)

    def test_classes_and_methods(self):
        for name, (form, methods) in CLASSES.items():
            self.same_form(module_of(name), form)
            for method in methods:
                self.same_form(getattr(module_of(name), form.partition("(")[0]), method, drop=("self",))


if __name__ == "__main__":
    unittest.main()
