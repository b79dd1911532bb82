"""The interface of DOC.md: every name is defined in its file, with its arguments."""

import importlib
import inspect
import unittest

FUNCTIONS = {
    "bits": {
        "weight": "mask", "parity": "mask", "members": "mask", "mask_of": "numbers", "echelon": "rows", "rank": "rows",
        "in_span": "rows mask", "combination": "rows mask", "solve": "rows bits", "kernel": "rows width",
    },
    "pauli": {
        "pauli_mul": "a b", "commute": "a b", "pauli_weight": "p", "negated": "p", "shifted": "p by",
        "product_of": "paulis", "pauli_text": "width p", "read_pauli": "text",
    },
    "state": {"state_of": "width paulis", "joined_state": "first second"},
    "code": {"joined_code": "first second"},
    "patch": {
        "touched": "rows columns i j", "corners": "rows columns", "check_mask": "rows columns i j",
        "patch": "rows columns", "draw": "rows columns x z",
    },
    "circuit": {"qubits_of": "op", "round_ops": "rows columns", "life_ops": "rows columns rounds"},
    "faults": {
        "is_fault": "ops fault", "simple_faults": "ops letter", "run_frame": "ops faults",
        "run_state": "state ops faults coins",
    },
    "record": {
        "record_of": "rows columns rounds signs faults", "fired_nodes": "rows columns record letter",
    },
    "graph": {
        "life_graph": "rows columns rounds letter", "odd_nodes": "graph edges", "total_flip": "graph edges",
        "distances": "graph start",
    },
    "distance": {
        "fault_distance": "graph", "shows_distance": "graph size sides levels", "distance_certificate": "graph",
    },
    "joins": {"shows_least": "graph fired size cuts", "least_join": "graph fired"},
    "clusters": {
        "join_within": "graph allowed fired", "grow": "graph fired", "full_edges": "growth", "clusters": "graph edges",
        "cluster_join": "graph fired",
    },
    "experiment": {"read_experiment": "text"},
    "erasures": {
        "erased_edges": "rows columns rounds letter erasures", "shows_cheapest": "graph free fired size cuts",
        "cheapest_join": "graph free fired", "decoded_with": "memory record erasures",
    },
    "plan": {"life_plan": "rows columns rounds signs"},
    "joint": {
        "sites": "rows columns", "separate_sites": "rows columns",
        "joint_ops": "rows columns before joined after", "joint_plan": "rows columns rounds signs",
        "tall_sites": "rows columns", "separate_tall_sites": "rows columns",
        "tall_ops": "rows columns before joined after", "tall_plan": "rows columns rounds signs",
    },
    "paper": {"write_paper": "memory record decoding", "paper_holds": "text", "paper_weights": "text"},
}

METHODS = {
    ("state", "State"): {
        "__init__": "width", "apply": "gate", "strike": "p", "expectation": "p", "measure": "p coin",
        "reset": "qubit coin", "stabilizers": "", "same_as": "other", "duplicate": "",
    },
    ("code", "Code"): {
        "__init__": "width x_checks z_checks x_logicals z_logicals", "syndrome": "letter mask",
        "logical_bits": "letter mask", "is_trivial": "letter mask", "fix": "letter syndrome bits",
        "distance": "letter", "check_paulis": "", "logical_pauli": "p", "encoded": "paulis signs",
    },
    ("errors", "InvalidLine"): {"__init__": "line"},
    ("memory", "Memory"): {
        "__init__": "rows columns rounds", "code": "", "ops": "", "graph": "letter", "bearable": "letter",
        "decoded": "record", "quick": "record", "read": "letter record bits",
    },
    ("memory", "Decoding"): {"edges": "letter", "cuts": "letter", "flip": "letter", "correction": "letter"},
    ("bank", "Bank"): {
        "__init__": "sizes rounds", "memory": "k", "first_qubit": "k", "physical": "p", "store": "paulis signs",
        "live": "state faults coins", "last_rows": "state", "repair": "state signs rows", "value": "state p",
    },
    ("experiment", "Experiment"): {
        "bank": "", "paulis": "", "signs": "", "faults": "", "coins": "", "text": "", "bearable": "", "run": "",
    },
    ("stream", "Stream"): {
        "__init__": "rows columns signs", "push": "row", "close": "row", "decided": "letter", "flip": "letter",
        "waiting": "letter",
    },
    ("plan", "Plan"): {
        "__init__": "ops ends detectors observables", "ops": "", "ends": "", "detectors": "", "observables": "",
        "readings": "", "flips": "faults", "fired": "bits letter", "value": "bits k", "graph": "k", "distance": "k",
        "decoded": "bits k",
    },
}

PROPERTIES = {("code", "Code"): ["x_checks", "z_checks", "x_logicals", "z_logicals"]}


def module(name):
    return importlib.import_module("bastion." + name)


def arguments(function):
    return [name for name in inspect.signature(function).parameters if name != "self"]


class InterfaceTest(unittest.TestCase):

    def test_functions(self):
        for file, table in FUNCTIONS.items():
            for name, wanted in table.items():
                function = getattr(module(file), name)
                self.assertTrue(inspect.isfunction(function), name)
                self.assertEqual(function.__module__, "bastion." + file)
                self.assertEqual(arguments(function), wanted.split(), name)

    def test_constants(self):
        self.assertEqual(module("joins").MAX_FIRED, 10)

    def test_methods_stand_in_their_class(self):
        for (file, class_name), table in METHODS.items():
            own = getattr(module(file), class_name)
            self.assertEqual(own.__module__, "bastion." + file)
            for name, wanted in table.items():
                self.assertIn(name, vars(own))
                self.assertEqual(arguments(vars(own)[name]), wanted.split(), name)

    def test_properties_stand_in_their_class(self):
        for (file, class_name), names in PROPERTIES.items():
            for name in names:
                self.assertIsInstance(vars(getattr(module(file), class_name))[name], property)


if __name__ == "__main__":
    unittest.main()
