"""The names and arguments of the interface, and where they are defined."""

import importlib
import inspect
import unittest

SIGNATURES = {
    "errors": {
        "InvalidPaper": "(word, at)",
        "UnknownName": "(name)",
        "MomentOutOfRange": "(moment)",
        "NotAReport": "(position)",
        "InvalidEvent": "(event, reason)",
        "NothingToUndo": "(steps)",
        "InvalidText": "(line, field)",
        "InvalidRow": "(row)",
    },
    "kinds": {
        "is_integer": "(thing)",
        "is_number": "(thing)",
        "is_name": "(thing)",
        "is_mark": "(thing)",
        "is_places": "(thing)",
        "is_event": "(thing)",
        "is_history_shape": "(thing)",
    },
    "historychecker": {"lets_history": "(thing)"},
    "reports": {
        "places_of": "(history)",
        "persons_of": "(history)",
        "reports_of": "(history)",
        "reports_by": "(history, persons)",
    },
    "stretches": {
        "stretches_of": "(history)",
        "stretch_at": "(history, place, moment)",
        "allowed_marks": "(history, trusted, stretch)",
    },
    "coursechecker": {"lets_course": "(history, trusted, thing)"},
    "states": {
        "past_states": "(history, trusted, moment)",
        "future_states": "(history, trusted, moment)",
        "possible_states": "(history, trusted, moment)",
    },
    "courses": {
        "course_through": "(history, trusted, moment, state)",
        "any_course": "(history, trusted)",
    },
    "historytexts": {"event_line": "(event)", "history_text": "(history)"},
    "historyreadings": {"event_read": "(text, *, line=0)", "history_read": "(text)"},
    "prices": {
        "are_prices": "(history, thing)",
        "are_level": "(history, prices)",
        "upper_bound": "(history, trusted, moment, places, prices)",
        "lower_bound": "(history, trusted, moment, places, prices)",
    },
    "ranges": {"range_of": "(history, trusted, moment, places)"},
    "pricing": {
        "best_prices": "(history, trusted, moment, places, *, is_upper=True)",
        "no_course_prices": "(history, trusted)",
    },
    "rangepapers": {"range_paper": "(history, trusted, moment, places)"},
    "rangechecker": {"lets_range": "(history, trusted, moment, places, thing)"},
    "knowledge": {
        "group_range": "(history, persons, moment, places)",
        "is_known": "(history, trusted, moment, places, low, high)",
    },
    "reportsets": {"sufficient_sets": "(history, trusted, candidates, moment, places, low, high)"},
    "reportsetpapers": {"report_set_paper": "(history, trusted, candidates, moment, places, low, high)"},
    "reportsetchecker": {"lets_report_set": "(history, trusted, candidates, moment, places, low, high, thing)"},
    "numbers": {"numbers_of": "(history, trusted, moment, places)"},
    "nogap": {"has_no_gap_reason": "(history, trusted, moment)"},
    "gappapers": {"number_paper": "(history, trusted, moment, places, number)"},
    "gapchecker": {"lets_number": "(history, trusted, moment, places, number, thing)"},
    "hindsight": {"forcing_sets": "(history, trusted, candidates, moment, places, allowed)"},
    "hindsightpapers": {"hindsight_paper": "(history, trusted, candidates, moment, places, allowed)"},
    "hindsightchecker": {"lets_hindsight": "(history, trusted, candidates, moment, places, allowed, thing)"},
    "refutetrees": {
        "fewest_forcing": "(history, trusted, candidates, moment, places, allowed)",
        "refute_tree": "(history, trusted, candidates, moment, places, allowed, size)",
    },
    "refutechecker": {"lets_refuted": "(history, trusted, candidates, moment, places, allowed, size, thing)"},
    "moves": {"moved_in": "(history, course, persons)", "least_moved": "(history, trusted, persons)"},
    "movepapers": {"moved_bound": "(history, trusted, prices)", "move_paper": "(history, trusted, persons)"},
    "movechecker": {"lets_moved": "(history, trusted, persons, thing)"},
    "costs": {
        "cost_of": "(history, priced, course, *, weights=())",
        "least_cost": "(history, trusted, priced, *, weights=())",
        "cheapest_course": "(history, trusted, priced, *, weights=())",
    },
    "costpapers": {
        "cost_bound": "(history, trusted, priced, prices, *, weights=())",
        "cost_paper": "(history, trusted, priced, *, weights=())",
    },
    "costchecker": {"lets_cost": "(history, trusted, priced, thing, *, weights=())"},
    "wrongs": {"wrong_reports": "(history, trusted, priced, *, weights=())"},
    "parts": {
        "part_of": "(history, trusted, priced, person, *, weights=())",
        "part_factor": "(history, priced, person, *, weights=())",
    },
    "partpapers": {"part_paper": "(history, trusted, priced, person, *, weights=())"},
    "partchecker": {"lets_part": "(history, trusted, priced, person, thing, *, weights=())"},
    "laststeps": {
        "steps_between": "(history, trusted, one, other)",
        "best_state": "(history, trusted, values)",
    },
    "steppapers": {"step_paper": "(history, trusted, one, other)"},
    "stepchecker": {"lets_steps": "(history, trusted, one, other, thing)"},
    "settling": {
        "is_settled": "(history, trusted, places, low, high)",
        "fewest_looks": "(history, trusted, places, low, high)",
    },
    "settlepapers": {
        "plan_paper": "(history, trusted, places, low, high)",
        "answer_paper": "(history, trusted, places, low, high, size)",
    },
    "settlechecker": {
        "lets_plan": "(history, trusted, places, low, high, thing)",
        "lets_answers": "(history, trusted, places, low, high, size, thing)",
    },
    "worlds": {"World": "(start)"},
    "replaying": {"is_log": "(thing)", "replayed": "(log)"},
    "rowtexts": {"row_line": "(row)", "log_lines": "(log)"},
    "rowreadings": {"read_row": "(text)", "read_log": "(lines)"},
    "desk": {"Desk": "()"},
}
METHODS = {
    ("worlds", "World"): {
        "mix_bags": "(self, person, places)",
        "new_bag": "(self, place, mark)",
        "look_at": "(self, person, place, mark)",
        "pour_out": "(self, person, places, number)",
        "trust": "(self, person)",
        "distrust": "(self, person)",
        "go": "(self, row)",
        "history_now": "(self)",
        "persons_trusted": "(self)",
        "trusted_now": "(self)",
        "range_now": "(self, moment, places)",
        "numbers_now": "(self, moment, places)",
        "moved_now": "(self, persons)",
        "cost_now": "(self, persons)",
        "is_settled_now": "(self, places, low, high)",
        "fewest_now": "(self, places, low, high)",
        "log": "(self)",
        "undo": "(self)",
        "do_all": "(self, rows, *, keep=False)",
        "counts": "(self)",
        "__len__": "(self)",
        "__str__": "(self)",
        "__eq__": "(self, other)",
        "__ne__": "(self, other)",
    },
    ("desk", "Desk"): {"say": "(self, row)", "counts": "(self)"},
}
FAMILIES = {
    "PaperError": ("InvalidPaper",),
    "HistoryError": ("UnknownName", "MomentOutOfRange", "NotAReport", "InvalidEvent", "NothingToUndo"),
    "TextError": ("InvalidText", "InvalidRow"),
}


class InterfaceTest(unittest.TestCase):
    def test_names_arguments_and_files(self):
        for file, names in SIGNATURES.items():
            module = importlib.import_module(f"mixedbags.{file}")
            for name, signature in names.items():
                thing = getattr(module, name)
                self.assertEqual(str(inspect.signature(thing)), signature, name)
                self.assertEqual(thing.__module__, f"mixedbags.{file}", name)

    def test_methods_stand_in_the_class_itself(self):
        for (file, name), methods in METHODS.items():
            owner = getattr(importlib.import_module(f"mixedbags.{file}"), name)
            for method, signature in methods.items():
                self.assertEqual(str(inspect.signature(vars(owner)[method])), signature, method)
            public = {word for word in vars(owner) if not word.startswith("_")}
            self.assertEqual(public, {word for word in methods if not word.startswith("_")})

    def test_families_of_errors(self):
        errors = importlib.import_module("mixedbags.errors")
        self.assertEqual(errors.BagsError.__bases__, (ValueError,))
        for family, names in FAMILIES.items():
            self.assertEqual(getattr(errors, family).__bases__, (errors.BagsError,))
            for name in names:
                self.assertEqual(getattr(errors, name).__bases__, (getattr(errors, family),))


if __name__ == "__main__":
    unittest.main()
