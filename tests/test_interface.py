import importlib
import inspect
import unittest

FUNCTIONS = {
    "texts": ("borders(word)", "occurrences(text, word)", "advance(word, matched, letter)"),
    "circles": ("turned(circle, k)", "least_turn(circle)", "root_of(circle)", "same_circle(one, other)",
                "circle_starts(circle, word)", "circle_has(circle, word)"),
    "suffixes": ("suffix_array(text)", "common_prefixes(text)", "suffix_range(text, word)"),
    "common": ("count_words(text)", "longest_repeat(text)", "common_part(one, other)",
               "least_missing(text, alphabet)"),
    "transform": ("transform(text)", "restore(column, place)", "runs_of(column)",
                  "backward(column, place, word)"),
    "grains": ("check_shards(pieces, grain)", "windows_of(pieces, grain)", "grams_of(pieces, grain)",
               "letters_after(pieces, grain, gram)"),
    "explaining": ("explains(pieces, grain, text, shape)",),
    "strands": ("strands(pieces, grain)",),
    "rings": ("circle_states(pieces, grain, word)", "circle_way(pieces, grain, word, state, letter)"),
    "lines": ("first_states(pieces, grain, word)", "line_way(pieces, grain, word, state, letter)"),
    "papers": ("check_circle_paper(pieces, grain, word, paper)", "check_line_paper(pieces, grain, word, paper)"),
    "certain": ("decide(pieces, grain, word, shape)", "example(pieces, grain, shape)"),
    "growing": ("grown(pieces, grain, word, shape, most)", "certain_words(pieces, grain, count, shape)"),
    "overlaps": ("free_pieces(pieces)", "overlap_graph(pieces, least)", "check_graph(graph)"),
    "reducing": ("reduced(graph)",),
    "tracing": ("traced(graph, circle)", "spelled(graph, walk)"),
    "distances": ("check_distances(count, distances)", "placed(count, distances)",
                  "check_ring(count, distances, limits)", "implied(count, distances, i, j)"),
    "voting": ("check_placed(size, placed_pieces, alphabet)", "least_wrong(size, placed_pieces, alphabet)",
               "possible_letters(size, placed_pieces, alphabet, budget)"),
    "correcting": ("voted(size, placed_pieces, alphabet)", "corrected(placed_pieces, text)",
                   "two_texts(size, placed_pieces, alphabet, budget, position)"),
    "assembly": ("assemble(size, placed_pieces, alphabet, budget, grain, shape)",),
    "reports": ("write_report(report)", "read_report(text)"),
    "spectra": ("check_spectrum(spectrum)", "spectrum_of(circle, grain)", "has_circle(spectrum)"),
    "euler": ("one_circle(spectrum)",),
    "counting": ("count_circles(spectrum)",),
    "ranking": ("count_lines(pieces, grain, size)", "number_of(pieces, grain, text)",
                "line_at(pieces, grain, size, number)", "shortest_line(pieces, grain)"),
    "words": ("word_automaton(text)", "run_word(automaton, word)", "shortest_of(automaton, state)"),
    "aligning": ("apply_edits(text, edits)", "distance(one, other)", "align(one, other)"),
    "tolerant": ("mismatches(one, other)", "near_starts(text, word, most)",
                 "tolerant_overlaps(one, other, least, most)"),
    "pairs": ("check_pairs(pieces, grain, pairs)", "keeps(text, pair)", "decide_with_pairs(pieces, grain, pairs, word)",
              "shortest_with_pairs(pieces, grain, pairs)"),
    "factors": ("fold(text)", "unfold(factors)"),
    "markers": ("markers(text)", "marked(text, position)", "shared_words(circles, count)",
                "longest_shared(circles, most)"),
}

CONSTANTS = {
    "index": {"TEXT_LIMIT": 2000, "VERSION_LIMIT": 200},
    "grains": {"GRAIN_LIMIT": 12, "PIECE_LIMIT": 40, "LETTER_LIMIT": 60},
    "lines": {"LINE_LIMIT": 8},
    "certain": {"WORD_LIMIT": 60},
}

INDEX_METHODS = ("__init__(self, text)", "count(self, word)", "locate(self, word)", "insert(self, at, word)",
                 "delete(self, at, count)", "back(self, version)", "text_at(self, version)",
                 "count_at(self, version, word)", "__len__(self)", "__contains__(self, word)")

# What each class defines itself: methods and properties.
CLASSES = {
    "index.Index": (INDEX_METHODS, ("text", "version", "runs")),
    "assembly.Report": (("paper(self, strand)",), ()),
    "bits.Bits": (("__init__(self, bits)", "__len__(self)", "ones_before(self, at)", "place_of_one(self, k)",
                   "place_of_zero(self, k)"), ()),
    "wavelets.Wavelet": (("__init__(self, text)", "__len__(self)", "letter(self, at)", "rank(self, sign, at)",
                          "place(self, sign, k)", "smaller(self, sign, low, high)", "kth(self, low, high, k)"), ()),
    "workshop.Workshop": (("__init__(self, grain, shape)", "add(self, piece)", "remove(self, number)",
                           "ask(self, word)", "what_if(self, piece, word)"), ("held",)),
    "ropes.Rope": (("__init__(self, text)", "__len__(self)", "insert(self, at, word)", "delete(self, at, count)",
                    "letter(self, at)", "rank(self, sign, at)", "part(self, start, end)",
                    "position_of(self, word, at)", "cut_off(self, at)", "put_behind(self, rope)", "whole(self)"), ()),
}


class InterfaceTest(unittest.TestCase):
    def test_functions_are_defined_where_they_are_listed(self):
        for name, told in FUNCTIONS.items():
            module = importlib.import_module("textshards." + name)
            for form in told:
                function = getattr(module, form.split("(")[0])
                self.assertTrue(inspect.isfunction(function), form)
                self.assertEqual(function.__module__, module.__name__, form)
                self.assertEqual(function.__name__ + str(inspect.signature(function)), form)

    def test_constants(self):
        for name, told in CONSTANTS.items():
            module = importlib.import_module("textshards." + name)
            for constant, number in told.items():
                self.assertEqual(getattr(module, constant), number, constant)

    def test_classes_define_their_methods_and_properties_themselves(self):
        for name, (methods, properties) in CLASSES.items():
            module, owner = name.split(".")
            owner = getattr(importlib.import_module("textshards." + module), owner)
            self.assertEqual(owner.__module__, "textshards." + module)
            for form in methods:
                method = vars(owner)[form.split("(")[0]]
                self.assertEqual(method.__name__ + str(inspect.signature(method)), form)
            for known in properties:
                self.assertIsInstance(vars(owner)[known], property, known)
