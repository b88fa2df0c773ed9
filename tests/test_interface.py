"""That everything stands where the interface lists it, with its parameters, and depends on nothing else."""

import importlib
import inspect
import os
import subprocess
import sys
import unittest

ROOT = os.path.dirname(os.path.dirname(os.path.abspath(__file__)))

FUNCTIONS = {
    "tokens": ["read_number(text)", "is_name(text)"],
    "kinds": ["kind_named(name)", "plain_value(kind, word)", "alike(kind, left, right)", "rule_words(rule)",
              "broken_rule(kind, other)", "under(kind, other)", "sundered(kind, other)"],
    "witnesses": ["witness(kind, left, right)"],
    "gates": ["fitting(letters)"],
    "sessions": ["cut_sessions(kind, letters, *, gap)", "told_sessions(kind, letters, mark, *, gap)",
                 "joined_sessions(kind, left, right, *, gap)"],
    "tapes": ["write_tape(deeds)", "read_tape(text)"],
    "plainruns": ["plain_board(kind, deeds, *, gap)"],
    "rows": ["row_from(kind, entries)", "row_values(row)", "row_holes(row)", "put_in_row(kind, row, number, value)",
             "joined_rows(kind, left, hole, right)"],
    "blocks": ["letter_block(kind, number, time, value)", "spread(block, number)", "covers(block, number)", "stretches(block)",
               "known_numbers(block)", "joined_blocks(kind, left, right)", "blocks_from(kind, letters, *, gap)"],
    "possibles": ["possible(kind, blocks, *, gap, base=0)", "letters_for(kind, blocks, *, gap)"],
    "ripening": ["ripe(holding, mark)", "tell(holding, mark)", "rival(kind, letters, mark, *, gap, base=0)"],
    "partings": ["future(holding, letters, count)", "parting(one, other)"],
    "narrowing": ["narrowed(holding, kind)"],
    "segments": ["joined_stretches(kind, pieces)"],
    "overlaps": ["common_values(one, other)", "determined(one, other, shared)", "unclear(one, other)"],
    "unions": ["unite(one, other)", "united(first, *others)"],
    "splits": ["parts_of(holding)"],
    "shuffles": ["shuffles(u, v)", "free_shuffles(kind, u, v, *, before=(), after=())",
                 "free_orders(kind, parcels, *, before=(), after=())"],
    "repeats": ["free_repeat(kind, parcels, i, j, *, before=(), after=())",
                "free_loss(kind, parcels, i, *, before=(), after=())"],
    "holders": ["present(ranking, yard)", "walk(crew, scheme, ranking, yard)", "holder(crew, scheme, ranking, yard)",
                "holders(crew, scheme, ranking, yards)"],
    "verdicts": ["moving(crew, scheme, yards)", "returning(crew, scheme, yards)", "needless(crew, scheme, yards)",
                 "start_node(yards)", "next_node(crew, scheme, yards, node, worker)", "settled(node)"],
    "tallies": ["tally(crew, scheme, yards)", "moved_counts(crew, scheme, before, after)"],
    "messages": ["newer(one, other)", "mark_for(watermark, key)"],
    "accounts": ["account(net, key)", "front(net, key)", "owed(net, key)", "carriers(net, key)"],
    "runs": ["run(net, deeds, weaving=())"],
    "sound": ["why_not(setting)", "sound(setting)", "sound_settings(crew, scheme, yards)"],
    "badruns": ["bad_run(setting)"],
    "judging": ["judged(setting, rankings, deeds, weaving=(), *, gap)"],
    "records": ["record_worker(net, worker)", "record_gate(net)", "first_record(net)"],
    "cuts": ["resume(cut)"], "loose": ["lacking(gate_record, records)", "loose(net, gate_record, records, board)"],
    "falls": ["fall(net, worker, record=None)"],
    "costs": ["list_cost(crew, scheme, loads, yards)", "step_cost(crew, scheme, loads, before, after)", "loads_of(net)",
              "moved_keys(net, yard)"],
    "plans": ["cheapest(crew, scheme, loads, start, goal, *, most=1, least=1)"],
    "trials": ["tried(desk, deeds)"], "listings": ["plan_listing(crew, plan)", "desk_listing(desk)"],
}
NET_PARAMETERS = "gap, crew, scheme, rankings, yard, sheet=('place', 'forward', False), again=False)"
METHODS = {
    "kinds": {
        "Kind": ["keep(self, word)", "plain(self, word)"], "BagKind": ["keep(self, word)"], "SetKind": ["keep(self, word)"],
        "HeadsKind": ["keep(self, word)"], "FirstKind": ["keep(self, word)"], "TailsKind": ["keep(self, word)"],
        "LastKind": ["keep(self, word)"], "EndsKind": ["keep(self, word)"],
    },
    "tables": {"Table": ["__init__(self, rows)", "rows(self)", "__call__(self, one, other)", "fold(self, word)",
                         "fault(self, kind)"]},
    "gates": {"Gate": ["__init__(self)", "lets_in(self, key, time)", "event(self, key, time, value)", "raise_floor(self, time)",
                       "finish(self)", "take(self, deed)", "letters_of(self, key)", "count_of(self, key)", "mark_of(self, key)",
                       "known(self)", "late(self)", "twin(self)"]},
    "boards": {"Board": ["__init__(self)", "take(self, report)", "reports_of(self, key)", "rows(self)", "__iter__(self)",
                         "__len__(self)", "__contains__(self, report)", "__eq__(self, other)", "twin(self)", "listing(self)"]},
    "plainruns": {"PlainRun": ["__init__(self, kind, *, gap)", "twin(self)", "take(self, deed)", "play(self, deeds)"]},
    "holdings": {"Holding": ["write(self)", "put(self, number, time, value)", "room(self, number)", "missing(self, count)",
                             "__contains__(self, number)", "__len__(self)", "__iter__(self)", "__eq__(self, other)"]},
    "heaps": {"Heap": ["put(self, number, time, value)", "__add__(self, other)", "__eq__(self, other)", "tell(self, mark)"]},
    "crews": {"Crew": ["__init__(self, workers)", "write(self)", "__len__(self)", "__iter__(self)", "__eq__(self, other)",
                       "name_of(self, worker)", "make_of(self, worker)", "number_of(self, name)"]},
    "schemes": {"Scheme": ["__init__(self, rules)", "write(self)", "takes(self, make, seen)", "__len__(self)",
                           "__eq__(self, other)", "__add__(self, other)"]},
    "verdicts": {"Verdict": ["__bool__(self)"]},
    "messages": {"Message": ["__init__(self, to, number, yard, body, *, hops=0, cut_number=0)"],
                 "Routing": ["__init__(self, crew, scheme, rankings)", "holder_of(self, key, yard)"]},
    "placers": {"Outcome": ["__init__(self)"],
                "Placer": ["__init__(self, worker, kind, routing, *, gap, yard, sheet=('place', 'forward', False))",
                           "twin(self)", "is_holder(self, key)", "receive(self, message)"]},
    "counters": {"Counter": ["__init__(self, worker, kind, routing, *, gap, yard, sheet=('count', 'forward', False))",
                             "twin(self)", "is_holder(self, key)", "receive(self, message)"]},
    "nets": {"Net": ["__init__(self, kind, *, " + NET_PARAMETERS, "__len__(self)", "__iter__(self)", "take(self, deed)",
                     "arrive(self, place, *, stays=False)", "split_at(self, place)", "settle(self)", "twin(self)"]},
    "runs": {"Run": ["__init__(self, net, deeds)", "steps(self)", "step(self, choice)", "follow(self, weaving)", "end(self)"]},
    "sheets": {"Setting": ["__init__(self, kind, crew, scheme, yards, *, sheet=('place', 'forward', False), again=False)",
                           "net_for(self, rankings, *, gap)", "yard_deeds(self)", "fits_tape(self, deeds)", "__eq__(self, other)"]},
    "judging": {"Judgement": ["missing(self)", "extra(self)", "parted(self)"]},
    "records": {"Record": [], "GateRecord": []},
    "cuts": {"CutNet": ["__init__(self, kind, *, " + NET_PARAMETERS, "take(self, deed)", "arrive(self, place, *, stays=False)",
                        "twin(self)", "begin_cut(self)"], "Cut": []},
    "plans": {"Plan": []},
    "trials": {"Trial": ["__enter__(self)", "__exit__(self, kind, value, trace)"]},
    "desks": {"Desk": ["__init__(self, kind, *, " + NET_PARAMETERS, "twin(self)", "event(self, key, time, value)",
                       "raise_floor(self, time)", "resize(self, yard)", "finish(self)", "arrive(self, choice, *, stays=False)",
                       "settle(self)", "cut(self)", "back(self, number)", "fall(self, worker)", "trial(self)", "take(self, deed)",
                       "reports(self)", "missing(self)", "extra(self)", "account_of(self, key)", "cost_of(self, yard)",
                       "plan_to(self, yard, *, most=1, least=1)"]},
}
CLASS_METHODS = {
    "holdings": {"Holding": ["empty(kind, *, gap, base=0)", "of(kind, letters, *, gap, base=0)",
                             "made(kind, blocks, *, gap, base=0)", "read(text)"]},
    "heaps": {"Heap": ["empty(kind, *, gap)"]}, "crews": {"Crew": ["read(text)"]}, "schemes": {"Scheme": ["read(text)"]},
    "desks": {"Desk": ["over(net, mirror)"]},
}
PROPERTIES = {"tables": {"Table": ["size"]}, "gates": {"Gate": ["floor", "finished"]}, "boards": {"Board": ["repeats"]},
              "holdings": {"Holding": ["top", "size"]}, "heaps": {"Heap": ["top", "size", "whole"]},
              "verdicts": {"Verdict": ["holds"]}, "nets": {"Net": ["newest"]}, "runs": {"Run": ["done"]},
              "judging": {"Judgement": ["agrees"]}, "cuts": {"CutNet": ["cut_open"]}}
# The modules in the order of the interface, but for trials: Desk.trial makes one, so these stand ahead of desks.
ORDER = ["errors", "tokens", "kinds", "tables", "witnesses", "gates", "sessions", "boards", "tapes", "plainruns", "rows", "blocks",
         "possibles", "holdings", "ripening", "partings", "narrowing", "segments", "overlaps", "unions", "splits", "shuffles",
         "repeats", "heaps", "crews", "schemes", "holders", "verdicts", "tallies", "messages", "placers", "counters",
         "nets", "accounts", "runs", "sheets", "sound", "badruns", "judging", "records",
         "cuts", "loose", "falls", "costs", "plans", "trials", "desks", "listings"]
# What is not in the interface stands ahead of these.
HELPERS = {"checks": "sessions", "holdingtexts": "holdings"}


def module(name):
    return importlib.import_module("movedstates." + name)


class InterfaceTest(unittest.TestCase):

    def test_functions(self):
        for name, signatures in FUNCTIONS.items():
            for signature in signatures:
                with self.subTest(f"{name} {signature}"):
                    word = signature.partition("(")[0]
                    found = getattr(module(name), word)
                    self.assertTrue(inspect.isfunction(found))
                    self.assertEqual(found.__module__, "movedstates." + name)
                    self.assertEqual(word + str(inspect.signature(found)), signature)

    def test_methods(self):
        for name, classes in METHODS.items():
            for word, signatures in classes.items():
                one = getattr(module(name), word)
                self.assertEqual(one.__module__, "movedstates." + name)
                for signature in signatures:
                    with self.subTest(f"{name} {word} {signature}"):
                        found = vars(one)[signature.partition("(")[0]]
                        self.assertTrue(inspect.isfunction(found))
                        self.assertEqual(found.__name__ + str(inspect.signature(found)), signature)

    def test_class_methods(self):
        for name, classes in CLASS_METHODS.items():
            for word, signatures in classes.items():
                for signature in signatures:
                    with self.subTest(f"{name} {word} {signature}"):
                        one = getattr(module(name), word)
                        method = signature.partition("(")[0]
                        self.assertIsInstance(vars(one)[method], classmethod)
                        self.assertEqual(method + str(inspect.signature(getattr(one, method))), signature)

    def test_properties(self):
        for name, classes in PROPERTIES.items():
            for word, properties in classes.items():
                for one in properties:
                    self.assertIsInstance(vars(getattr(module(name), word))[one], property)

    def test_each_module_can_be_imported_alone_and_needs_only_those_before_it(self):
        for at, name in enumerate(ORDER):
            before = ORDER[:at + 1] + [helper for helper, first in HELPERS.items() if first in ORDER[:at + 1]]
            code = ("import sys\nold = set(sys.modules)\nimport movedstates." + name + "\nnew = set(sys.modules) - old\n"
                    "print(*sorted(one for one in new if one != 'movedstates'))")
            done = subprocess.run([sys.executable, "-B", "-c", code], capture_output=True, text=True, cwd=ROOT)
            self.assertEqual(done.stderr, "")
            loaded = done.stdout.split()
            self.assertIn("movedstates." + name, loaded)
            allowed = ["movedstates." + one for one in before]
            self.assertEqual([one for one in loaded if one not in allowed], [])


if __name__ == "__main__":
    unittest.main()
