"""That what the interface lists is there: in its file, with its names and arguments."""

import importlib
import inspect
import unittest

FUNCTIONS = {
    "basics": {"is_integer": "value", "is_count": "value", "is_text": "value", "is_name": "value",
               "is_fraction": "value"},
    "pictures": {"least_line": "picture", "is_line": "picture value"},
    "ahead": {"is_ahead": "picture first second", "chain": "picture first second",
              "is_chain": "picture first second value", "clock": "picture event",
              "line_against": "picture first second", "exchanges": "picture line", "way": "picture one other",
              "is_way": "picture one other value"},
    "cuts": {"is_cut": "picture value", "least_cut": "picture events", "greatest_cut": "picture places",
             "pulls": "picture places", "are_pulls": "picture places value", "line_through": "picture cut",
             "on_the_way": "picture cut", "noted": "picture line places", "all_cuts": "picture"},
    "flags": {"perhaps": "picture flags", "crossings": "picture flags", "are_crossings": "picture flags value",
              "surely": "picture flags", "stretches": "picture flags", "are_stretches": "picture flags value",
              "line_past": "picture flags", "is_line_past": "picture flags value"},
    "books": {"is_fact": "book value", "holds": "book fact point", "told_in_full": "picture"},
    "knowing": {"knows": "book house fact point", "learnt": "book house fact number",
                "knows_along": "book houses fact point", "path_against": "book houses fact point",
                "layers": "book houses fact point", "is_path_against": "book houses fact point value",
                "are_layers": "book houses fact point value", "relay": "book houses point event",
                "is_relay": "book houses point event value"},
    "common": {"is_common": "book group fact point", "closed_seats": "book group fact point",
               "are_closed_seats": "book group fact point value", "way_out": "book group fact point",
               "is_way_out": "book group fact point value", "depth": "book group fact point",
               "linked": "book group number"},
    "trees": {"is_tree": "value"},
    "meetings": {"how_many": "tree", "standing": "tree", "meetings": "tree", "cuts": "tree",
                 "is_meeting": "tree value", "is_cut": "tree value", "meeting_among": "tree houses",
                 "cut_among": "tree houses", "own_share": "tree", "closest": "tree", "share": "one other",
                 "apart": "one other", "cuts_within": "one other", "are_cuts_within": "one other value"},
    "loads": {"load": "tree", "chances": "tree", "weights": "tree", "asked": "tree value",
              "is_chances": "tree limit value", "is_weights": "tree limit value"},
    "votes": {"votes": "tree", "trade": "tree", "is_votes": "tree value", "is_trade": "tree value"},
    "joins": {"is_melt": "table value", "result": "table melt", "melts": "table", "parting": "table",
              "is_parting": "table value", "soaked": "table picture begins gifts cut",
              "heard": "table picture begins gifts cut"},
    "pieces": {"join": "table values", "pieces": "table", "needed": "table value", "is_free": "table value listed",
               "free_lists": "table value", "is_clear": "table", "is_prime": "table piece", "missing": "table v u",
               "does_send": "table v u listed", "fewest": "table v u", "lapse": "table", "is_lapse": "table value",
               "read_of": "table thresholds shower", "are_firm": "table thresholds",
               "unlike_showers": "table thresholds", "are_unlike_showers": "table thresholds value"},
    "kinds": {"led": "kind state calls", "telling": "kind one other"},
    "endings": {"line_end": "kind picture state line", "ends": "kind picture state",
                "do_end_alike": "kind picture state", "do_answer_alike": "kind picture state",
                "unlike_ends": "kind picture state", "unlike_answers": "kind picture state",
                "are_unlike_ends": "kind picture state value", "are_unlike_answers": "kind picture state value",
                "is_exchanging": "kind picture state", "not_exchanging": "kind picture state"},
    "histories": {"answers": "history things numbers"},
    "zones": {"counting": "history firsts", "zones": "history firsts", "barring": "history firsts",
              "is_plain_explained": "history firsts", "plain_order": "history firsts",
              "plain_refusal": "history firsts", "is_plain_refusal": "history firsts value"},
    "refusals": {"is_explained": "history things", "explains": "history things value", "order": "history things",
                 "refusal": "history things", "is_refusal": "history things value",
                 "first_refused": "history things", "can_answer": "history things hand"},
    "ownorder": {"explains_own": "history things value", "own_order": "history things",
                 "own_refusal": "history things", "is_own_refusal": "history things value",
                 "links": "history firsts writes", "told_order": "history firsts writes",
                 "ring": "history firsts writes", "is_ring": "history firsts writes value"},
    "rules": {"is_right": "rule losing", "right_paper": "rule losing", "is_right_paper": "rule value losing",
              "is_regular": "rule"},
    "shelves": {"is_run": "rule value", "can_be_done": "rule run value", "holding": "rule run",
                "under_way": "rule run", "calls": "rule run", "history": "rule run", "losers": "rule run"},
    "tagged": {"tag_order": "rule run", "is_explained_run": "rule run", "missed": "rule run",
               "is_regular_run": "rule run"},
    "wrongruns": {"wrong_run": "rule losing", "is_wrong_run": "rule value losing", "late_run": "rule number",
                  "is_late_run": "rule number value"},
    "ballots": {"is_council_run": "council value", "can_be_done": "council run value", "house_states": "council run",
                "ballots": "council run", "chosen": "council run", "is_safe": "council", "two_values": "council",
                "is_two": "council value"},
    "records": {"record": "council run ballot", "is_record": "council run ballot value", "can_choose": "council up",
                "finish": "council run up own", "is_finish": "council run up value", "bar": "council up",
                "is_bar": "council up value"},
    "fast": {"is_sure": "fast", "doubt": "fast", "is_doubt": "fast value", "may_be_chosen": "fast asked replies",
             "picked": "fast asked replies own"},
    "slots": {"chosen_calls": "council runs", "prefix": "known", "holes": "known", "joined": "one other",
              "led_by": "kind state known", "led_once": "kind state named"},
    "kept": {"is_kept": "picture value", "ends": "picture", "least_kept_cut": "picture kept spots",
             "greatest_kept_cut": "picture kept spots", "useless": "picture kept"},
    "zigzags": {"zigzag": "picture kept one other", "is_zigzag": "picture kept one other value",
                "straight": "picture kept one other", "is_straight": "picture kept one other value",
                "barrier": "picture kept spots", "is_barrier": "picture kept spots value", "is_tracked": "picture kept",
                "untracked": "picture kept", "out_of_order": "picture kept"},
    "back": {"left_states": "picture kept fallen house written", "remaining": "picture kept fallen written",
             "undone": "picture kept fallen written", "undoings": "picture kept fallen event written",
             "is_undoings": "picture kept fallen event value written", "worst": "picture kept many written",
             "further": "picture kept fallen written", "to_write": "picture kept", "are_enough": "picture kept written",
             "first_loss": "picture kept written"},
    "texts": {"written": "thing", "read": "text"},
    "claims": {"is_claim": "value", "is_true": "claim", "contrary": "claim", "paper_of": "claim",
               "is_paper": "claim value"},
    "log": {"are_alike": "rule one other", "exchanges_between": "rule one other",
            "are_exchanges_between": "rule one other value", "difference": "rule one other",
            "is_difference": "rule one other value", "least_alike": "rule run"},
    "desk": {"picture_of": "rule run", "tried": "desk commands", "again": "rule log"},
}
CLASSES = {
    ("pictures", "Picture"): {
        "__init__": "rows", "rows": "", "events": "", "letters": "", "said": "letter", "heard": "letter",
        "beginning": "cut", "__len__": "", "__contains__": None, "__getitem__": None, "__eq__": None, "__repr__": ""},
    ("books", "Book"): {
        "__init__": "pictures starts watched", "starts": "", "watched": "number", "points": "", "row": "house point",
        "alike": "house point", "__len__": "", "__contains__": None, "__eq__": None, "__repr__": ""},
    ("trees", "Tree"): {
        "__init__": "shape", "members": "", "stands": "houses", "__len__": "", "__contains__": None, "__invert__": "",
        "__and__": None, "__or__": None, "__eq__": None, "__repr__": ""},
    ("joins", "Table"): {
        "__init__": "rows", "rows": "", "at": "x y", "__len__": "", "__eq__": None, "__repr__": ""},
    ("kinds", "Kind"): {
        "__init__": "calls", "calls": "", "after": "state call", "__eq__": None, "__repr__": ""},
    ("histories", "History"): {
        "__init__": "entries", "entries": "", "calls": "", "hands": "", "names": "", "beginning": "many",
        "about": "names", "only": "numbers", "__len__": "", "__add__": None, "__eq__": None, "__repr__": ""},
    ("rules", "Rule"): {
        "__init__": "houses reading writing writers back", "reading_meetings": "", "writing_meetings": "",
        "written": "", "__eq__": None, "__repr__": ""},
    ("ballots", "Council"): {"__init__": "promise accept", "members": "", "__eq__": None, "__repr__": ""},
    ("fast", "Fast"): {"__init__": "promise first", "members": "", "__eq__": None, "__repr__": ""},
    ("log", "Log"): {
        "__init__": "changes", "lines": "", "text": "", "__add__": None, "__len__": "", "__contains__": None,
        "__eq__": None, "__repr__": ""},
    ("desk", "Desk"): {
        "__init__": "rule", "run": "", "log": "", "do": "command", "__call__": "command", "__iadd__": None,
        "__getitem__": None, "__setitem__": None, "__len__": "", "do_all": "commands", "copy": "", "__eq__": None},
    ("desk", "Trial"): {"__init__": "desk", "__enter__": "", "__exit__": None},
}
PROPERTIES = {("pictures", "Picture"): ["houses"], ("books", "Book"): ["pictures", "houses"],
              ("trees", "Tree"): ["shape", "is_plain"], ("joins", "Table"): [], ("kinds", "Kind"): ["states"],
              ("histories", "History"): [], ("rules", "Rule"): ["houses", "reading", "writing", "writers", "back"],
              ("ballots", "Council"): ["promise", "accept"], ("fast", "Fast"): ["promise", "first"], ("log", "Log"): [],
              ("desk", "Desk"): ["rule", "changes"], ("desk", "Trial"): []}
DEFAULTS = {("books", "Book"): {"starts": None, "watched": None},
            ("rules", "Rule"): {"writers": "one", "back": "always"}, ("rules", "is_right"): {"losing": 0},
            ("rules", "right_paper"): {"losing": 0}, ("rules", "is_right_paper"): {"losing": 0},
            ("wrongruns", "wrong_run"): {"losing": 0}, ("wrongruns", "is_wrong_run"): {"losing": 0},
            ("kept", "least_kept_cut"): {"spots": ()}, ("kept", "greatest_kept_cut"): {"spots": ()},
            ("log", "Log"): {"changes": ()}}
DEFAULTS.update({("back", name): {"written": ()} for name in ("left_states", "remaining", "undone", "undoings",
                                                              "is_undoings", "worst", "further")})
REQUIRED = {("back", "are_enough"), ("back", "first_loss"), ("zigzags", "barrier"), ("desk", "picture_of")}


def names_of(function):
    return list(inspect.signature(function).parameters)


class TestInterface(unittest.TestCase):
    def test_functions(self):
        for file, functions in FUNCTIONS.items():
            module = importlib.import_module("oneshelf." + file)
            for name, names in functions.items():
                function = getattr(module, name)
                self.assertTrue(inspect.isfunction(function), name)
                self.assertEqual(function.__module__, "oneshelf." + file)
                self.assertEqual(names_of(function), names.split(), name)

    def test_classes(self):
        for (file, name), methods in CLASSES.items():
            kind = getattr(importlib.import_module("oneshelf." + file), name)
            self.assertTrue(inspect.isclass(kind))
            self.assertEqual(kind.__module__, "oneshelf." + file)
            for method, names in methods.items():
                self.assertIn(method, kind.__dict__, name)
                if names is not None:
                    self.assertEqual(names_of(kind.__dict__[method])[1:], names.split(), method)
            for told in PROPERTIES[file, name]:
                self.assertIsInstance(kind.__dict__[told], property)

    def test_static_methods(self):
        for file, name, method, names in (("trees", "Tree", "of", ["number", "parts"]), ("log", "Log", "of_text", ["text"]),
                                          ("log", "Log", "torn", ["text"])):
            kind = getattr(importlib.import_module("oneshelf." + file), name)
            self.assertIsInstance(kind.__dict__[method], staticmethod)
            self.assertEqual(names_of(getattr(kind, method)), names)

    def test_what_is_read_off_files_and_classes(self):
        self.assertEqual(importlib.import_module("oneshelf.histories").History.MOST_ENTRIES, 240)
        self.assertIsInstance(importlib.import_module("oneshelf.claims").WORDS, list)
        for function in (importlib.import_module("oneshelf.desk").tried, importlib.import_module("oneshelf.desk").Desk.do_all):
            self.assertEqual(list(inspect.signature(function).parameters.values())[1].kind, inspect.Parameter.VAR_POSITIONAL)

    def test_defaults(self):
        for (file, name), wanted in DEFAULTS.items():
            kind = getattr(importlib.import_module("oneshelf." + file), name)
            told = inspect.signature(kind).parameters
            self.assertEqual({key: told[key].default for key in wanted}, wanted)
        for file, name in REQUIRED:
            told = inspect.signature(getattr(importlib.import_module("oneshelf." + file), name)).parameters
            self.assertEqual({parameter.default for parameter in told.values()}, {inspect.Parameter.empty})


if __name__ == "__main__":
    unittest.main()
