"""Section 22 of the document: the names, arguments and files of the interface."""

import importlib
import inspect
import unittest

INTERFACE = {
    "nextsuch.words": (
        "is_text(wide, thing)", "is_letters(wide, thing)", "is_change(wide, thing)",
        "next_place(text, place, letters)", "last_place(text, place, letters)", "between(text, near, far)",
        "changed(text, change)", "shorter(one, other)"),
    "nextsuch.machines": (
        "is_machine(thing)", "wide_of(machine)", "state_after(machine, text)", "takes(machine, text)",
        "least(machine)", "alike(one, other)", "joined(one, other, word)", "contrary(machine)", "mirrored(machine)",
        "first_taken(machine)", "parting(one, other)"),
    "nextsuch.doings": (
        "doing_of(machine, text)", "then(one, other)", "doings(machine)", "idempotents(machine)",
        "word_for(machine, doing)", "power_of(doing)", "is_within(machine, one, other)", "doings_long(machine, number)",
        "span(machine)"),
    "nextsuch.classes": (
        "onward_class(machine, doing)", "backward_class(machine, doing)", "both_ways(machine, doing)",
        "keeping(machine, doing)", "keeping_back(machine, doing)", "falls(machine, text)", "falls_back(machine, text)",
        "most_falls(machine)", "most_falls_back(machine)", "longest_falling(machine)", "are_steady(machine)"),
    "nextsuch.kinds": (
        "kinds(machine)", "is_of(machine, kind)", "bar(machine, kind)", "is_bar(machine, thing)",
        "texts_by(bar, number)"),
    "nextsuch.asks": (
        "is_side(thing)", "is_ask(wide, thing)", "is_naming(wide, thing)", "found(text, place, side, letters)",
        "row_named(text, naming)", "named(text, naming)", "stands_at(text, place)", "turned(naming)"),
    "nextsuch.trees": (
        "is_tree(wide, thing)", "asks_ahead(tree)", "depth(tree)", "manners(tree)", "run(tree, text)",
        "answer(tree, text)", "way_of(tree, text)", "shared(tree)", "tree_joined(one, other, word)",
        "tree_contrary(tree)", "tree_mirrored(tree)"),
    "nextsuch.chains": (
        "is_chain(wide, thing)", "ways(chain, text)", "fits(chain, text)", "is_single(chain)", "two_ways(chain)",
        "meeting(one, other)", "narrowed(chain, letters)", "chain_mirrored(chain)"),
    "nextsuch.unfolded": (
        "unfolded(wide, tree)", "chain_of(wide, tree, text)", "reached(wide, tree)", "cleaned(wide, tree)"),
    "nextsuch.judged": (
        "machine_of(wide, tree)", "machine_of_chains(wide, chains)", "is_right(machine, tree)",
        "wrong(machine, tree)", "are_alike(wide, one, other)", "unlike(wide, one, other)"),
    "nextsuch.made": (
        "made(machine)", "made_onward(machine)", "made_backward(machine)", "made_coming(machine)",
        "of_chains(wide, chains)"),
    "nextsuch.against": (
        "against(machine, tree)", "is_against(machine, tree, thing)", "wall(bar, number)", "asks_needed(bar, size)"),
    "nextsuch.looks": (
        "is_look_tree(wide, thing)", "look(tree, text)", "looks_most(tree)", "made_looks(machine)",
        "looks_wrong(machine, tree)", "looks_right(machine, tree)", "exchanged(bar, number)",
        "looks_against(bar, tree)"),
    "nextsuch.namings": (
        "are_one(wide, one, other)", "order_of(wide, one, other)", "unlike_named(wide, one, other)",
        "letters_there(wide, naming)", "text_with(wide, naming, what)"),
    "nextsuch.changes": (
        "gone_over(tree, text)", "touched_by(tree, text, change)", "asked_again(tree, text, change)",
        "can_turn(wide, tree, text)", "turning(wide, tree, text)", "place_behind(text, change, place)"),
    "nextsuch.writing": (
        "write_machine(machine)", "write_tree(tree)", "write_looker(looker)", "write_naming(naming)",
        "write_chains(chains)", "write_bar(bar)", "write_text(row)", "read_machine(written)", "read_tree(wide, written)",
        "read_looker(wide, written)", "read_naming(wide, written)", "read_chains(wide, written)",
        "read_bar(wide, written)", "read_text(wide, written)"),
    "nextsuch.judge": (
        "is_claim(thing)", "is_so(claim)", "paper(claim)", "is_paper_for(claim, thing)",
        "is_paper_against(claim, thing)", "verdicts(claims, things)", "comes_of(claim, claims)", "first_false(claims)"),
    "nextsuch.desk": ("desk(text)", "is_request(thing)"),
    "nextsuch.errors": ("NoPlace(place)", "BadText(line)", "CanNot()", "TooMuch()", "Unfit()"),
}


class Interface(unittest.TestCase):
    def test_names_and_arguments(self):
        for module, shown in INTERFACE.items():
            for own in shown:
                name = own.partition("(")[0]
                told = getattr(importlib.import_module(module), name)
                self.assertEqual(name + str(inspect.signature(told)), own)

    def test_each_is_defined_in_its_file(self):
        for module, shown in INTERFACE.items():
            for own in shown:
                told = getattr(importlib.import_module(module), own.partition("(")[0])
                self.assertEqual(told.__module__, module)
                self.assertTrue(inspect.isclass(told) if module == "nextsuch.errors" else inspect.isfunction(told))


if __name__ == "__main__":
    unittest.main()
