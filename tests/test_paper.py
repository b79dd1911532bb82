"""Part 16: papers."""

import random
import time
import unittest

from bastion.errors import InvalidPaper, TooMany
from bastion.faults import run_frame
from bastion.joins import shows_least
from bastion.memory import Memory
from bastion.paper import paper_holds, paper_weights, write_paper
from bastion.patch import corners, patch
from bastion.record import fired_nodes, record_of
from tests import model
from tests.test_memory import bearable_faults, final_errors, lived, random_signs, record_with, stored

QUIET = ["patch 2 2", "rounds 1", "row 000", "row 000", "row 000", "letter X", "edges", "cuts", "flip 0",
         "correction 15",
         "letter Z", "edges", "cuts", "flip 0", "correction 0"]


def joined(lines):
    return "".join(line + "\n" for line in lines)


def paper_of(memory, faults, signs):
    record = record_with(memory, signs, faults)
    return write_paper(memory, record, memory.decoded(record))


def loud_lines():
    """The lines of a paper of 3 x 3 with one round, in which both letters have edges, and cuts."""
    memory = Memory(3, 3, 1)
    return paper_of(memory, [(1, 2, 0), (8, 0, 256)], [0, 1, 1, 0, 0, 1, 0, 1]).splitlines()


def with_line(lines, at, line):
    return joined(lines[:at] + [line] + lines[at + 1:])


def model_holds(text):
    """Point 16.3 for a text that is a paper, straight from its words, with the graphs of earlier parts."""
    lines = text.splitlines()
    rows, columns = [int(word) for word in lines[0].split()[1:]]
    rounds = int(lines[1].split()[1])
    record = [[int(digit) for digit in line.split()[1]] for line in lines[2:rounds + 4]]
    letters = [corner[0] for corner in corners(rows, columns)]
    code = patch(rows, columns)
    memory = Memory(rows, columns, rounds)
    for letter, at in (("X", rounds + 4), ("Z", rounds + 9)):
        edges, cuts, (flip,), (error,) = [[int(word) for word in line.split()[1:]] for line in lines[at + 1:at + 5]]
        graph = memory.graph(letter)
        fired = fired_nodes(rows, columns, record, letter)
        if any(k >= len(graph[1]) for k in edges) or model.odd_ends(graph, edges) != fired:
            return False
        if any(mask >= 2 ** graph[0] for mask in cuts) or not model.is_least_shown(graph, fired, len(edges), cuts):
            return False
        syndrome = [a ^ b for other, a, b in zip(letters, record[0], record[-1]) if other != letter]
        if flip != model.flip_of(graph, edges) or error >= 2 ** (rows * columns):
            return False
        if code.syndrome(letter, error) != syndrome or code.logical_bits(letter, error) != [flip]:
            return False
    return True


class WriteTest(unittest.TestCase):

    def test_a_record_without_faults(self):
        memory = Memory(2, 2, 1)
        record = [[1, 0, 1]] * 3
        lines = ["patch 2 2", "rounds 1", "row 101", "row 101", "row 101"]
        for letter in "XZ":
            lines += ["letter " + letter, "edges", "cuts", "flip 0", "correction 0"]
        self.assertEqual(write_paper(memory, record, memory.decoded(record)), joined(lines))

    def test_the_lines_are_those_of_the_decoding(self):
        source = random.Random(1)
        for size in ((2, 2, 1), (2, 3, 2), (3, 3, 1), (5, 5, 2), (9, 2, 10)):
            memory = Memory(*size)
            for count in (0, 1, 2, 3):
                faults = model.random_faults(source, memory.ops(), count)
                record = record_with(memory, random_signs(source, memory), faults)
                given = [list(row) for row in record]
                for decoding in (memory.decoded(record), memory.quick(record)):
                    lines = [f"patch {size[0]} {size[1]}", f"rounds {size[2]}"]
                    lines += ["row " + "".join(map(str, row)) for row in record]
                    for letter in "XZ":
                        lines.append(f"letter {letter}")
                        lines.append(" ".join(["edges", *map(str, decoding.edges(letter))]))
                        lines.append(" ".join(["cuts", *map(str, decoding.cuts(letter))]))
                        lines += [f"flip {decoding.flip(letter)}", f"correction {decoding.correction(letter)}"]
                    self.assertEqual(write_paper(memory, record, decoding), joined(lines))
                    self.assertEqual(record, given)

    def test_papers_of_decoded_records_hold(self):
        source = random.Random(2)
        for size, most in (((2, 2, 1), 3), ((2, 3, 3), 6), ((3, 3, 2), 8), ((5, 5, 2), 12), ((4, 7, 3), 12),
                           ((9, 9, 10), 5)):
            memory = Memory(*size)
            for _ in range(8 if size[0] < 9 else 2):
                faults = model.random_faults(source, memory.ops(), source.randint(0, most))
                record = record_with(memory, random_signs(source, memory), faults)
                try:
                    decoding = memory.decoded(record)
                except TooMany:
                    continue
                text = write_paper(memory, record, decoding)
                self.assertIs(paper_holds(text), True)
                self.assertEqual(paper_weights(text), tuple(len(decoding.edges(letter)) for letter in "XZ"))

    def test_papers_of_any_bits_hold(self):
        source = random.Random(3)
        memory = Memory(2, 2, 3)
        for _ in range(40):
            record = [model.random_bits(source, 3) for _ in range(5)]
            self.assertIs(paper_holds(write_paper(memory, record, memory.decoded(record))), True)


class InvalidTest(unittest.TestCase):

    def check(self, text):
        for call in (paper_holds, paper_weights):
            with self.assertRaises(InvalidPaper):
                call(text)

    def spoil(self, lines, at, others):
        """Each of the other lines at a place makes the text no paper."""
        self.assertIs(paper_holds(joined(lines)), True)
        for line in others:
            self.check(with_line(lines, at, line))

    def test_examples(self):
        self.assertIs(paper_holds(joined(QUIET)), True)
        self.check("patch 2 2\nrounds 1\n")

    def test_line_feeds(self):
        self.check("")
        self.check("\n")
        self.check("\n".join(QUIET))
        self.check(joined(QUIET) + "\n")
        self.check("\n" + joined(QUIET))
        self.check(joined(QUIET).replace("\n", "\r\n"))
        self.check(joined(QUIET)[:-1] + " ")
        self.check(joined(QUIET) + "x")

    def test_missing_and_further_lines(self):
        for lines in (QUIET, loud_lines()):
            for at in range(len(lines)):
                self.check(joined(lines[:at] + lines[at + 1:]))
                self.check(joined(lines[:at]))
                for line in (lines[at], "", "#", "# x", "row 000", "letter X"):
                    self.check(joined(lines[:at] + [line] + lines[at:]))
            for line in lines:
                self.check(joined(lines + [line]))

    def test_spaces_and_case(self):
        for lines in (QUIET, loud_lines()):
            for at, line in enumerate(lines):
                spoiled = [" " + line, line + " ", line.replace(" ", "  "), line.replace(" ", "\t"), line + "\t",
                           line.upper(),
                           line.title(), line.replace(" ", ""), "", " ", line[1:]]
                self.spoil(lines, at, [other for other in spoiled if other != line])

    def test_lines_in_another_order(self):
        for at in range(len(QUIET) - 1):
            if QUIET[at] != QUIET[at + 1]:
                self.check(joined(QUIET[:at] + [QUIET[at + 1], QUIET[at]] + QUIET[at + 2:]))
        self.check(joined(QUIET[:5] + QUIET[10:] + QUIET[5:10]))

    def test_sizes(self):
        self.spoil(QUIET, 0, ["patch", "patch 2", "patch 2 2 2", "patch 1 2", "patch 2 1", "patch 10 2", "patch 2 10",
                              "patch 0 0", "patch 02 2", "patch 2 02", "patch +2 2", "patch 2 x", "patch -2 2",
                              "patch 2 3", "patch 3 2", "rounds 2", "patch 2 " + "1" * 201, "patch 2 " + "1" * 200,
                              "Patch 2 2", "patch 2.0 2", "patch \u0662 2", "patch \u00b2 2"])
        self.spoil(QUIET, 1, ["rounds", "rounds 0", "rounds 2", "rounds 11", "rounds 1 1", "rounds 01", "rounds x",
                              "rounds -1", "round 1", "rounds " + "1" * 201])
        # With no or eleven rounds, which are refused, all else could be right.
        for rounds in (0, 10, 11):
            lines = QUIET[:1] + [f"rounds {rounds}"] + ["row 000"] * (rounds + 2) + QUIET[5:]
            if rounds == 10:
                self.assertIs(paper_holds(joined(lines)), True)
            else:
                self.check(joined(lines))
        for size, right in (((9, 9), True), ((9, 10), False), ((10, 9), False), ((1, 9), False), ((9, 1), False)):
            row = "row " + "0" * (size[0] * size[1] - 1)
            lines = [f"patch {size[0]} {size[1]}", "rounds 1"] + [row] * 3 + QUIET[5:9] + ["correction 0"] + QUIET[10:]
            if right:
                self.assertIs(paper_holds(joined(lines)), True)
            else:
                self.check(joined(lines))

    def test_rows(self):
        for at in (2, 3, 4):
            self.spoil(QUIET, at, ["row", "row ", "row 00", "row 0000", "row 002", "row 00x", "row 000 0", "row 0 0 0",
                                   "row0 00", "row 0-0", "rows 000", "000", "row 00\u0661", "row 0_0", "letter X"])

    def test_letters(self):
        self.spoil(QUIET, 5, ["letter Z", "letter Y", "letter", "letter x", "letter X X", "letter XZ", "X", "edges"])
        self.spoil(QUIET, 10, ["letter X", "letter Y", "letter", "letter z", "letter Z Z", "Z"])

    def test_edges_and_cuts(self):
        for at in (6, 7, 11, 12):
            word = QUIET[at]
            wrong = ["x", "-1", "01", "00", "+1", "1.0", "1,2", "1_0", "0x1", "1 x", "1 01", "1" * 201,
                     "0 " + "1" * 201, "\u0661"]
            self.spoil(QUIET, at, [word + " " + other for other in wrong] + ["", word + "s", "edge", "flip 0"])
        for at in (6, 11):
            self.spoil(QUIET, at, ["edges 1 0", "edges 1 1", "edges 0 2 1", "edges 0 1 1", "edges 2 3 3 4",
                                   "edges 10 9"])

    def test_ascending_edges_and_any_cuts_are_papers(self):
        for at, line in ((6, "edges 0 1"), (6, "edges 9 10"), (7, "cuts 1 0"), (7, "cuts 1 1"), (12, "cuts 3 1 2 2"),
                         (6, "edges " + "1" * 200), (7, "cuts " + "9" * 200 + " 0"), (9, "correction " + "1" * 200)):
            text = with_line(QUIET, at, line)
            self.assertIs(paper_holds(text), False)
            edges = len(line.split()) - 1 if at == 6 else 0
            self.assertEqual(paper_weights(text), (edges, 0))

    def test_flips_and_corrections(self):
        for at in (8, 13):
            self.spoil(QUIET, at, ["flip", "flip 2", "flip 00", "flip 01", "flip 0 0", "flip x", "flip -1", "flips 0",
                                   "flip 10"])
        for at in (9, 14):
            self.spoil(QUIET, at, ["correction", "correction 0 0", "correction 00", "correction x", "correction -1",
                                   "correct 0", "correction 1.0", "correction " + "1" * 201])


class HoldsTest(unittest.TestCase):
    """A change of one number or bit of a paper, and False for each clause alone."""

    def test_the_example_with_other_corrections(self):
        # The X check is the mask 15. X on 0 and 2 is the logical: it has no syndrome, and the logical bit 1.
        for error in range(17):
            self.assertIs(paper_holds(with_line(QUIET, 9, f"correction {error}")), error in (0, 15))
            # The Z checks are the masks 5 and 10.
            self.assertIs(paper_holds(with_line(QUIET, 14, f"correction {error}")), error in (0, 5, 10, 15))

    def test_each_clause_alone(self):
        lines = loud_lines()
        self.assertIs(paper_holds(joined(lines)), True)
        self.assertEqual(paper_weights(joined(lines)), (1, 1))
        memory = Memory(3, 3, 1)
        record = [[int(digit) for digit in line[4:]] for line in lines[2:5]]
        for letter, at in (("X", 5), ("Z", 10)):
            graph = memory.graph(letter)
            nodes = graph[0]
            fired = fired_nodes(3, 3, record, letter)
            (edge,) = [int(word) for word in lines[at + 1].split()[1:]]
            cuts = [int(word) for word in lines[at + 2].split()[1:]]
            flip, error = int(lines[at + 3][5:]), int(lines[at + 4][11:])
            # Another edge with the same flip: the cuts and all else are right, but it is no join.
            others = [k for k, other in enumerate(graph[1]) if other[2] == flip and k != edge]
            self.assertTrue(others)
            for k in others:
                self.assertEqual(paper_holds(with_line(lines, at + 1, f"edges {k}")),
                                 model.odd_ends(graph, [k]) == fired)
            # Cuts that show nothing, in the right number.
            for wrong in ([cuts[0], 0], [0, cuts[1]], [cuts[0] | 1 << nodes, cuts[1]]):
                self.assertIs(paper_holds(with_line(lines, at + 2, "cuts " + " ".join(map(str, wrong)))), False)
            # The flip and the logical bit of the correction fit to each other, but not to the edges.
            logical = 0b1001001 if letter == "X" else 0b111
            self.assertIs(paper_holds(with_line(lines, at + 4, f"correction {error ^ logical}")), False)
            turned = lines[:at + 3] + [f"flip {1 - flip}", f"correction {error ^ logical}"] + lines[at + 5:]
            self.assertIs(paper_holds(joined(turned)), False)
            self.assertIs(paper_holds(with_line(lines, at + 3, f"flip {1 - flip}")), False)
            # A correction with another syndrome and the right logical bit.
            self.assertIs(paper_holds(with_line(lines, at + 4, f"correction {error ^ 1 << 4}")), False)
            self.assertIs(paper_holds(with_line(lines, at + 4, f"correction {error | 1 << 9}")), False)

    def test_a_join_that_is_not_least(self):
        """An edge twice as long way round is a join, but no cuts can show that it is least."""
        memory = Memory(3, 3, 1)
        lines = loud_lines()
        record = [[int(digit) for digit in line[4:]] for line in lines[2:5]]
        graph = memory.graph("X")
        fired = fired_nodes(3, 3, record, "X")
        longer = [edges for edges in model.edge_sets((graph[0], graph[1][:14])) if len(edges) in (2, 3)
                  and model.odd_ends(graph, edges) == fired][:20]
        self.assertTrue(longer)
        cuts = lines[7].split()[1:]
        for edges in longer:
            for some in (cuts, cuts * len(edges)):
                changed = lines[:6] + ["edges " + " ".join(map(str, edges)), " ".join(["cuts", *some])]
                for flip in (0, 1):
                    error = memory.code().fix("X", memory.code().syndrome("X", int(lines[9][11:])), [flip])
                    text = joined(changed + [f"flip {flip}", f"correction {error}"] + lines[10:])
                    self.assertIs(paper_holds(text), False)
                    self.assertEqual(paper_weights(text)[0], len(edges))

    def test_one_number_or_bit_changed(self):
        source = random.Random(4)
        held = 0
        for size in ((2, 2, 1), (3, 3, 1), (3, 4, 2)):
            memory = Memory(*size)
            for _ in range(4):
                faults = model.random_faults(source, memory.ops(), 2)
                lines = paper_of(memory, faults, random_signs(source, memory)).splitlines()
                for text in self.changed(source, lines, size[2]):
                    wanted = model_holds(text)
                    self.assertIs(paper_holds(text), wanted)
                    held += wanted
        self.assertGreater(held, 0)

    def changed(self, source, lines, rounds):
        """Papers in which one number or bit has been changed."""
        for at in range(2, rounds + 4):
            for k in range(4, len(lines[at])):
                yield with_line(lines, at, lines[at][:k] + str(1 - int(lines[at][k])) + lines[at][k + 1:])
        for at in range(rounds + 4, len(lines)):
            words = lines[at].split()
            if words[0] == "flip":
                yield with_line(lines, at, "flip " + str(1 - int(words[1])))
            elif words[0] != "letter":
                for k in range(1, len(words)):
                    number = int(words[k])
                    for other in {number + 1, max(number - 1, 0), number ^ 1 << source.randrange(12),
                                  number + 2 ** 100}:
                        numbers = words[1:k] + [str(other)] + words[k + 1:]
                        if words[0] == "edges":
                            numbers = sorted(set(numbers), key=int)
                        yield with_line(lines, at, " ".join([words[0], *numbers]))

    def test_numbers_that_are_too_great(self):
        lines = loud_lines()
        for letter, at in (("X", 5), ("Z", 10)):
            nodes, edges = Memory(3, 3, 1).graph(letter)
            given = lines[at + 1].split()[1:]
            for k in (len(edges), len(edges) + 1, 10 ** 9, 10 ** 199):
                self.assertIs(paper_holds(with_line(lines, at + 1, " ".join(["edges", *given, str(k)]))), False)
                self.assertIs(paper_holds(with_line(lines, at + 1, f"edges {k}")), False)
                self.assertIs(paper_holds(with_line(QUIET, 6 if letter == "X" else 11, f"edges {k}")), False)
            cuts = lines[at + 2].split()[1:]
            for k in range(len(cuts)):
                for more in (2 ** nodes, 2 ** (nodes + 1), 2 ** 600):
                    changed = cuts[:k] + [str(int(cuts[k]) + more)] + cuts[k + 1:]
                    self.assertIs(paper_holds(with_line(lines, at + 2, " ".join(["cuts", *changed]))), False)

    def test_a_cut_beyond_the_nodes_that_would_show_it(self):
        """The bit of the boundary in a cut: only the bound of the masks forbids it."""
        memory = Memory(2, 2, 1)
        nodes, edges = memory.graph("Z")
        record = [[0, 0, 0], [0, 1, 0], [0, 1, 0]]
        lines = write_paper(memory, record, memory.decoded(record)).splitlines()
        cuts = [int(word) for word in lines[12].split()[1:]]
        for more in (1 << (nodes + 1), 1 << (nodes + 5)):
            self.assertIs(shows_least((nodes, edges), [0], 1, [cuts[0] | more, cuts[1]]), True)
            text = with_line(lines, 12, f"cuts {cuts[0] | more} {cuts[1]}")
            self.assertIs(paper_holds(text), False)

    def test_it_does_not_decode(self):
        """Records with more fired nodes than a decoder could take can still be told and checked."""
        memory = Memory(9, 9, 10)
        source = random.Random(5)
        faults = model.random_faults(source, memory.ops(), 25)
        record = record_with(memory, random_signs(source, memory), faults)
        text = write_paper(memory, record, memory.quick(record))
        start = time.monotonic()
        self.assertIn(paper_holds(text), (True, False))
        self.assertLess(time.monotonic() - start, 5)


class GuaranteeTest(unittest.TestCase):
    """Point 16.5."""

    def test_papers_that_hold_restore_the_state(self):
        source = random.Random(6)
        for size, times in (((3, 3, 2), 15), ((5, 5, 2), 8), ((3, 5, 1), 8), ((7, 4, 1), 3)):
            memory = Memory(*size)
            for _ in range(times):
                faults = bearable_faults(source, memory)
                lines = paper_of(memory, faults, random_signs(source, memory)).splitlines()
                rounds = size[2]
                for at, letter, checks in ((rounds + 4, "X", memory.code().x_checks),
                                           (rounds + 9, "Z", memory.code().z_checks)):
                    cuts = lines[at + 2].split()[1:]
                    source.shuffle(cuts)
                    lines[at + 2] = " ".join(["cuts", *cuts])
                    # Another correction of the same class.
                    error = int(lines[at + 4].split()[1])
                    for check in checks:
                        error ^= source.choice([0, check])
                    lines[at + 4] = f"correction {error}"
                    self.assertTrue(memory.code().is_trivial(letter, final_errors(memory, faults)[letter] ^ error))
                self.assertIs(paper_holds(joined(lines)), True)
                least = (sum(x > 0 for _, x, _ in faults), sum(z > 0 for _, _, z in faults))
                weights = paper_weights(joined(lines))
                self.assertTrue(weights[0] <= least[0] and weights[1] <= least[1])

    def test_stored_states_return(self):
        source = random.Random(7)
        for size in ((3, 3, 2), (3, 5, 1), (5, 3, 1)):
            memory = Memory(*size)
            for text in ("+X", "-Y", "+Z"):
                data, signs = stored(source, memory, text)
                faults = bearable_faults(source, memory)
                state, rows = lived(source, memory, data, faults)
                record = [signs] + rows + [record_with(memory, signs, faults)[-1]]
                paper = write_paper(memory, record, memory.decoded(record))
                self.assertIs(paper_holds(paper), True)
                told = [int(line.split()[1]) for line in paper.splitlines() if line.startswith("correction")]
                state.strike((0, *told))
                for p in data.stabilizers():
                    self.assertEqual(state.expectation(p), 1)

    def test_no_fewer_faults_can_have_led_to_a_record(self):
        """All single faults of a small life: none leads to a record whose paper tells of two."""
        memory = Memory(3, 3, 1)
        ops = memory.ops()
        for at in range(0, len(ops), 3):
            for x in (0, 1 << ops[at][1]):
                fault = (at, x, 1 << ops[at][1])
                record = record_of(3, 3, 1, [0] * 8, [fault])
                weights = paper_weights(write_paper(memory, record, memory.decoded(record)))
                self.assertTrue(weights[0] <= (1 if x else 0) and weights[1] <= 1)
                flips, _, _ = run_frame(ops, [fault])
                self.assertEqual(record[1], flips)


if __name__ == "__main__":
    unittest.main()
