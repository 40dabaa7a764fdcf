"""The interface: what stands in which file, with which arguments and attributes; nothing is changed."""

import inspect
import unittest
from importlib import import_module
from pathlib import Path

import playsalike
from playsalike.pieces import Function, Piece

CALLS = {
    "sorts": ["is_plain(thing)", "is_sort(thing)"],
    "terms": ["is_term(size, names, thing)", "sort_of(size, names, term)"],
    "pieces": ["free_names(piece)", "function_of(piece)", "put(piece, word, other)",
               "put_in(piece, word, other)"],
    "evaluating": ["evaluated(piece, steps)"],
    "arounds": ["whole_of(piece, around)", "ended_around(piece, around, steps)"],
    "books": ["open_names(book)", "uses(book, word)"],
    "examples": ["examples()"],
    "letters": ["is_letter(thing)", "in_order(letters)"],
    "heardmoves": ["heard_moves(piece)", "told_moves(piece)"],
    "links": ["open_piece(book, word)", "linked(book, word)"],
    "machines": ["takes(machine, row)", "widened(machine, letters)"],
    "joins": ["joined(machine, other)", "both(machine, other)", "without(machine, other)",
              "contrary(machine)"],
    "asking": ["first_row(machine)", "first_apart(machine, other)", "first_beyond(machine, other)",
               "is_among(machine, other)", "rows_of(machine, most)", "count_rows(machine, length)",
               "lengths(machine)"],
    "chains": ["behind(machine, other)", "again(machine)", "backwards(machine)"],
    "leaving": ["left_out(machine, letters)", "let_in(machine, letters)", "kept_by(machine, other)",
                "relettered(machine, names)", "put_for(machine, letter, other)"],
    "machinebytes": ["machine_bytes(machine)", "bytes_machine(thing)"],
    "makers": ["nothing(letters)", "empty(letters)", "just(letters, row)", "one_of(letters, some)",
               "all_rows(letters)"],
    "moves": ["teller(move)", "moves_of(piece)"],
    "outcomes": ["outcome(piece)"],
    "houselogs": ["log_of(house)", "read_log(piece, thing)"],
    "driving": ["driven(piece, digits)", "house_plays(piece, most)"],
    "playing": ["is_begun(piece, thing)", "is_play(piece, thing)", "waiting(piece, row)"],
    "countings": ["count_plays(piece, length)", "all_plays(piece, length)"],
    "programs": ["programmed(piece, givings)", "whole_piece(piece, givings)"],
    "rests": ["led(machine, row)", "next_letters(machine, row)", "rest(machine, row)",
              "beginnings(machine)"],
    "plays": ["machine_of(piece)", "has_play(piece, thing)", "plays_up_to(piece, most)",
              "how_many_plays(piece, length)", "least_play(piece)", "asked_names(piece)",
              "reply(piece, row)", "may_hear(piece, row)"],
    "alike": ["same(piece, other)", "less(piece, other)"],
    "assuming": ["assumed(piece, places)", "claims_dropped(piece, places)", "first_break(piece, place)",
                 "breaking_places(piece)"],
    "classes": ["classes_of(pieces)", "above_of(pieces)", "least_of_all(pieces)"],
    "culprits": ["mixed(book, other, lot)", "culprits(book, other, word)"],
    "edits": ["is_edit(thing)", "edited(book, edit)", "reached(book, edit)", "compared(book, other)"],
    "endings": ["play_for(piece, number)", "answers(piece)", "must_ask(piece)"],
    "functions": ["function_moves(function)", "machine_of_function(function)"],
    "composing": ["composed(piece, word, function)"],
    "partings": ["parting(piece, other)", "beyond(piece, other)"],
    "putclaims": ["safe_with(piece, word, function)", "always_breaks(piece, word)"],
    "boxlaws": ["after(piece, boxes, starts)", "breaks_from(piece, boxes, starts)"],
    "invariants": ["before(piece, boxes, wanted)", "least_kept(test, body, boxes, starts)"],
    "playwrights": ["around_of(piece, play)"],
    "rules": ["is_right(rule)"],
    "parters": ["parter(piece, other)"],
    "soles": ["sole_piece(piece, play)"],
    "smallpieces": ["all_terms(size, names, sort, nodes)", "classes(size, names, sort, nodes)"],
    "leastterms": ["least_same(piece, nodes)"],
    "safefunctions": ["safe_functions(piece, word, nodes)"],
    "smallrules": ["shortens(rule)", "small_rules(size, holes, nodes)", "normal(piece, rules)"],
    "piecetexts": ["piece_text(piece)", "function_text(function)", "piece_of_text(text)",
                   "function_of_text(text)", "next_in_piece(text)", "next_in_function(text)"],
    "playtexts": ["play_text(piece, row)", "play_of_text(piece, text)", "next_in_play(piece, text)"],
    "renames": ["plain_piece(piece)", "renamed_piece(piece, words)", "piece_renaming(piece, other)"],
    "benchlogs": ["deed_line(deed)", "deed_of_line(text)", "journal(bench)", "taken_up(book, lines)",
                  "trimmed(bench)"],
    "rewriting": ["matched(rule, piece, at)", "rewritten(rule, piece, at)"],
    "dead": ["unasked(piece)", "dead_places(piece)"],
    "optimising": ["shortening(piece)", "optimised(piece)"],
    "boxes": ["begins(piece, at)", "is_idle(piece, at)"],
    "breakers": ["breaker(piece)", "ender(piece, number)"],
    "scribes": ["fallen(scribe, kept)"],
    "readings": ["read_apart(piece, other, digits)", "digits_apart(piece, other)"],
    "questions": ["is_question(thing)", "answered(book, question)"],
    "benches": ["is_deed(thing)"],
    "claims": ["claims_in(piece)", "least_break(piece)", "is_safe(piece)"],
    "places": ["places(piece)", "part_at(piece, at)", "names_at(piece, at)",
               "exchanged(piece, at, term)"],
}
CLASSES = {
    "pieces": ["Piece(size, names, term)", "Function(size, names, params, term)"],
    "arounds": ["Around(size, names, sort, boxes, functions, ending)"],
    "books": ["Book(size, entries)"],
    "machines": ["Machine(letters, ways, ends)"],
    "houses": ["House(piece)"],
    "couples": ["Couple(piece, givings)"],
    "rules": ["Rule(left, right)"],
    "scribes": ["Scribe(piece, thing)"],
    "benches": ["Bench(book)"],
    "desk": ["Desk(book)"],
}
METHODS = {
    ("houses", "House"): ["can_hear(self)", "hear(self, move)", "twin(self)", "steps(self)", "spots(self)",
                          "boxes(self)"],
    ("couples", "Couple"): ["can_hear(self)", "hear(self, move)", "twin(self)", "passed(self)"],
    ("scribes", "Scribe"): ["hear(self, move)", "tell(self)"],
    ("benches", "Bench"): ["do(self, deed)", "undo(self)", "redo(self)", "questions(self)", "answers(self)",
                           "versions(self, word)", "deeds(self)", "undone(self)", "what_if(self, deed)",
                           "since(self, number)"],
    ("desk", "Desk"): ["say(self, line)"],
}
FOLDER = Path(playsalike.__file__).parent


class Interface(unittest.TestCase):
    def check(self, table, is_right):
        for module, told in table.items():
            found = import_module("playsalike." + module)
            for line in told:
                word = line.split("(")[0]
                thing = getattr(found, word)
                self.assertTrue(is_right(thing), line)
                self.assertEqual(word + str(inspect.signature(thing)), line)
                self.assertEqual(thing.__module__, "playsalike." + module, line)

    def test_functions(self):
        self.check(CALLS, inspect.isfunction)

    def test_classes(self):
        self.check(CLASSES, inspect.isclass)

    def test_methods_are_defined_in_the_class_itself(self):
        for (module, word), told in METHODS.items():
            found = vars(getattr(import_module("playsalike." + module), word))
            for line in told:
                method = found[line.split("(")[0]]
                self.assertEqual(method.__name__ + str(inspect.signature(method)), line)

    def test_the_package_holds_nothing_but_its_files(self):
        found = [path.name for path in FOLDER.iterdir() if path.name != "__pycache__"]
        self.assertTrue(all(name.endswith(".py") for name in found))
        self.assertIn("__init__.py", found)

    def test_a_name_like_another_kind_of_thing_is_none_of_it(self):
        piece = Piece(2, {}, ("skip",))
        function = Function(2, {}, (), ("skip",))
        self.assertFalse(piece == function)
        self.assertFalse(function == piece)


if __name__ == "__main__":
    unittest.main()
