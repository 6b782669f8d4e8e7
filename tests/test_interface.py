"""The names and arguments that the document lists, in the files under which it lists them."""

import importlib
import inspect
import unittest

INTERFACE = {
    "texts": ["is_text(value)", "compare_texts(first, second)", "number_of_text(text)", "text_of_number(number)",
              "next_text(text)"],
    "patterns": ["is_pattern(value)", "check_pattern(value)", "is_plain(pattern)", "matches(pattern, text)"],
    "states": ["start_state(patterns)", "next_state(patterns, state, letter)", "state_of(patterns, text)",
               "accepted(patterns, state)", "all_states(patterns)"],
    "classes": ["class_of(patterns, text)", "all_classes(patterns)", "first_texts(patterns, wanted, count, but=())",
                "first_text(patterns, wanted, but=())", "first_rows(patterns, count)", "check_patterns(patterns)"],
    "values": ["is_id(value)", "is_value(value)", "value_key(value)", "compare_values(first, second)"],
    "talks": ["is_name(value)", "check_kinds(kinds, registers=())", "kind_number(kinds, name)", "is_opening(request)",
              "name_of(request)", "values_of(request)", "check_request(kinds, request, place=None)",
              "check_talk(kinds, talk)", "compare_requests(kinds, first, second)", "compare_talks(kinds, first, second)",
              "least_talk(kinds, talks)"],
    "written": ["format_value(value)", "format_request(request)", "format_talk(talk)", "parse_value(text)",
                "parse_request(line)", "parse_talk(text)"],
    "conditions": ["check_condition(condition, names, registers)", "size_of(condition)", "holds(condition, meaning)",
                   "normal(condition)", "patterns_in(condition)"],
    "rules": ["value_names(requests, name)", "check_rule(rule, stations, registers, requests)", "patterns_of_rule(rule)"],
    "services": ["same_service(first, second)", "with_rules(service, rules)", "patterns_of(services)"],
    "notation": ["format_service(service)", "parse_service(text)"],
    "steps": ["new_object(service)", "rule_for(service, item, number, name, values)",
              "step(service, item, number, name, values, given)", "opened(service, values, given)"],
    "house": ["run_talk(service, talk)"],
    "alone": ["alone(service, talk, number)"],
    "exchange": ["exchange(service, talk, pairs)", "exchanged_answer(answer, pairs)"],
    "pairs": ["check_pair(first, second, pair, place)", "kind_of(patterns, pair)", "alike(patterns, one, other)",
              "example_of(patterns, pair)", "pair_key(first, second, pair)", "known_after(pair)"],
    "moves": ["openings(first, second, patterns)", "requests_to(first, second, patterns, pair)",
              "move(first, second, pair, request, given)"],
    "reach": ["reach(first, second, extra=())"],
    "search": ["first_talk(first, second, ends, extra=())"],
    "difference": ["difference(first, second)"],
    "serves": ["serves(first, second)"],
    "papers": ["paper(first, second)", "judge(first, second, pairs)"],
    "idle": ["idle_rules(service)", "core(service)", "forgetting(service, spots)", "can_forget(service, spots)", "forgettable(service)"],
    "goals": ["check_goal(goal)", "patterns_of_goal(goal)", "meets(goal, request, given, answer)"],
    "saying": ["saying(service, goal)"],
    "suites": ["changes_of(service)", "changed(service, change)", "part_in(first, second, talk)", "suite_of(service)"],
    "live": ["check_carry(first, second, carry)", "carried(first, carry, item, number)", "live(first, second, carry)"],
}
# For each class, its arguments, its methods, and its properties.
CLASSES = {
    "services": ("Service(stations, registers, requests, rules)", [], ["stations", "registers", "requests", "rules"]),
    "house": ("House(service)", ["ask(self, request)", "object_of(self, number)", "objects(self)", "given(self)"], []),
}


class Interface(unittest.TestCase):

    def test_functions(self):
        for name, functions in INTERFACE.items():
            module = importlib.import_module("talkalike." + name)
            for line in functions:
                function = getattr(module, line.partition("(")[0])
                self.assertEqual(function.__name__ + str(inspect.signature(function)), line)
                self.assertEqual(function.__module__, module.__name__)

    def test_classes(self):
        for name, (line, methods, properties) in CLASSES.items():
            module = importlib.import_module("talkalike." + name)
            kind = getattr(module, line.partition("(")[0])
            self.assertEqual(kind.__name__ + str(inspect.signature(kind)), line)
            self.assertEqual(kind.__module__, module.__name__)
            for line in methods:
                method = vars(kind)[line.partition("(")[0]]
                self.assertEqual(method.__name__ + str(inspect.signature(method)), line)
            for line in properties:
                self.assertIsInstance(vars(kind)[line], property)


if __name__ == "__main__":
    unittest.main()
