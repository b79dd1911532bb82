"""Part 11: experiments."""

import random
import unittest

from bastion.bank import Bank
from bastion.errors import InvalidLine
from bastion.experiment import Experiment, read_experiment
from bastion.pauli import pauli_text, read_pauli
from bastion.record import fired_nodes, record_of
from tests import model
from tests.test_bank import bearable_faults, random_paulis, random_signs

# Every form of a line, in the order in which text() writes them.
PLAIN = [
    "rounds 2", "patch 2 2", "patch 3 3", "store +XX", "store -ZZ", "sign 0 2", "sign 1 0", "sign 1 7",
    "fault 0 0 1 0", "fault 1 4 16 16", "fault 1 0 0 1", "coins 0110",
]


def joined(lines):
    return "".join(line + "\n" for line in lines)


class ReadTest(unittest.TestCase):

    def check(self, text):
        """Checks that a text is that of PLAIN, and returns its experiment."""
        experiment = read_experiment(text)
        self.assertIsInstance(experiment, Experiment)
        self.assertEqual(experiment.text(), joined(PLAIN))
        return experiment

    def test_example(self):
        experiment = read_experiment("rounds 1\npatch 3 3\nstore +X\nfault 0 4 16 0\n")
        self.assertEqual(experiment.run(), "memory 0: fired 2 0, edges 1 0, flips 0 0\nkept\n")

    def test_what_is_read(self):
        experiment = self.check(joined(PLAIN))
        bank = experiment.bank()
        self.assertIsInstance(bank, Bank)
        self.assertEqual(bank.width, 24)
        for k, size in enumerate([(2, 2, 2), (3, 3, 2)]):
            memory = bank.memory(k)
            self.assertEqual((memory.rows, memory.columns, memory.rounds), size)
        self.assertEqual(experiment.paulis(), [(0, 3, 0), (2, 0, 3)])
        self.assertEqual(experiment.signs(), [[0, 0, 1], [1, 0, 0, 0, 0, 0, 0, 1]])
        self.assertEqual(experiment.faults(), [[(0, 1, 0)], [(4, 16, 16), (0, 0, 1)]])
        self.assertEqual(experiment.coins(), [0, 1, 1, 0])

    def test_with_and_without_a_line_feed_at_the_end(self):
        self.check("\n".join(PLAIN) + "\n")
        self.check("\n".join(PLAIN))
        self.check("\n".join(PLAIN) + "\n\n")
        for text in ("rounds 1\npatch 2 2\nstore +X", "rounds 1\npatch 2 2\nstore +X\n"):
            self.assertEqual(read_experiment(text).text(), "rounds 1\npatch 2 2\nstore +X\n")

    def test_skipped_lines_everywhere(self):
        for skipped in ("", "#", "# a word", "#rounds 3", "# fault 9 9 9 9", "##"):
            for at in range(len(PLAIN) + 1):
                self.check(joined(PLAIN[:at] + [skipped] + PLAIN[at:]))
            both = [line for pair in PLAIN for line in (skipped, pair)] + [skipped, skipped]
            self.check("\n".join(both))
            self.check(joined(both))

    def test_the_bounds_of_the_numbers(self):
        for rounds in (1, 10):
            for rows, columns in ((2, 2), (9, 2), (2, 9), (9, 9)):
                lines = [f"rounds {rounds}", f"patch {rows} {columns}", "store -Y"]
                self.assertEqual(read_experiment(joined(lines)).text(), joined(lines))
        for count in range(1, 5):
            lines = ["rounds 1"] + ["patch 2 2"] * count
            lines += ["store +" + "I" * k + "Z" + "I" * (count - 1 - k) for k in range(count)]
            self.assertEqual(read_experiment(joined(lines)).text(), joined(lines))

    def test_great_masks(self):
        ops = read_experiment("rounds 10\npatch 9 9\nstore +X\n").bank().memory(0).ops()
        at = max(k for k, op in enumerate(ops) if op == ("read_x", 160) or op == ("read_z", 160))
        lines = ["rounds 10", "patch 9 9", "store +X", f"fault 0 {at} {2 ** 160} {2 ** 160}"]
        self.assertEqual(read_experiment(joined(lines)).faults(), [[(at, 2 ** 160, 2 ** 160)]])

    def test_every_fault_of_a_life(self):
        source = random.Random(1)
        ops = read_experiment("rounds 1\npatch 2 3\nstore +X\n").bank().memory(0).ops()
        faults = [model.random_fault(source, ops, at) for at in range(len(ops))]
        lines = ["rounds 1", "patch 2 3", "store +X"] + [f"fault 0 {at} {x} {z}" for at, x, z in faults]
        self.assertEqual(read_experiment(joined(lines)).faults(), [faults])

    def test_faults_may_stand_twice(self):
        lines = ["rounds 1", "patch 2 2", "store +X", "fault 0 0 1 0", "fault 0 0 1 0", "fault 0 0 1 1"]
        self.assertEqual(read_experiment(joined(lines)).faults(), [[(0, 1, 0), (0, 1, 0), (0, 1, 1)]])

    def test_several_lines_of_coins(self):
        lines = ["rounds 1", "patch 2 2", "store +X", "coins 0", "sign 0 0", "coins 11", "coins 0", "fault 0 0 1 0"]
        experiment = read_experiment(joined(lines))
        self.assertEqual(experiment.coins(), [0, 1, 1, 0])
        self.assertEqual(experiment.text(), joined(lines[:3] + ["sign 0 0", "fault 0 0 1 0", "coins 0110"]))
        for coin in "01":
            experiment = read_experiment(joined(lines[:3] + ["coins " + coin]))
            self.assertEqual(experiment.coins(), [int(coin)])
            self.assertEqual(experiment.text(), joined(lines[:3] + ["coins " + coin]))
        word = "01" * 300
        self.assertEqual(read_experiment(joined(lines[:3] + ["coins " + word])).coins(), [0, 1] * 300)


class WrongLinesTest(unittest.TestCase):

    def check(self, lines, number):
        for text in ("\n".join(lines), joined(lines)):
            with self.assertRaises(InvalidLine) as caught:
                read_experiment(text)
            self.assertEqual(caught.exception.line, number, lines)
            self.assertIs(type(caught.exception.line), int)

    def spoil(self, at, lines, prefix=()):
        """Each of the lines at the place of line number at (from 0) of PLAIN is wrong."""
        for line in lines:
            self.check([*prefix, *PLAIN[:at], line, *PLAIN[at + 1:]], len(prefix) + at + 1)

    def test_texts_that_end_too_early(self):
        with self.assertRaises(InvalidLine) as caught:
            read_experiment("")
        self.assertEqual(caught.exception.line, 1)
        for count in range(1, 5):
            self.check(PLAIN[:count], count + 1)
            self.check(["# x"] + PLAIN[:count] + ["", "#"], count + 4)
        self.check(["#"], 2)
        for text, number in (("\n", 2), ("\n\n", 3), ("#\n\n#", 4), ("rounds 1\npatch 3 3\n", 3)):
            with self.assertRaises(InvalidLine) as caught:
                read_experiment(text)
            self.assertEqual(caught.exception.line, number)

    def test_rounds(self):
        self.spoil(0, ["rounds", "rounds 0", "rounds 11", "rounds 100", "rounds 1 1", "rounds x", "rounds -1",
                       "rounds 01", "rounds +1", "rounds 1.0", "rounds 1_0", "rounds 1 ", "rounds  1", " rounds 1",
                       "Rounds 1", "rounds1", "rounds\t1", "rounds 1\r", " ", "round 1", "rounds \u0661",
                       "rounds \u00b2", "rounds " + "0" * 60,
                       "rounds " + "1" * 60, "rounds " + "1" * 61, "patch 2 2", "store +X", "coins 1", "sign 0 0", "x"])

    def test_patches(self):
        wrong = ["patch", "patch 2", "patch 1 2", "patch 2 1", "patch 10 2", "patch 2 10", "patch 2 2 2", "patch 02 2",
                 "patch 2 x", "patch 2  2", "patch 2 2 ", " patch 2 2", "patch 2,2", "Patch 2 2", "patch -2 2",
                 "patch 0 0", "patch 2 " + "9" * 60, "patch " + "9" * 61 + " 2", "rounds 2", "sign 0 0", "coins 0",
                 "fault 0 0 1 0", " "]
        self.spoil(1, wrong + ["store +X", "store +XX"])
        self.spoil(2, wrong)

    def test_no_fifth_patch(self):
        self.check(["rounds 1"] + ["patch 2 2"] * 5 + ["store +ZIIII"], 6)
        self.check(["rounds 1", "patch 2 2", "", "patch 2 3"] + ["patch 2 2"] * 3, 7)

    def test_no_patch_behind_a_store_line(self):
        self.spoil(4, ["patch 2 2", "rounds 1"])
        self.spoil(5, ["patch 2 2", "rounds 1"])

    def test_store_lines(self):
        wrong = ["store", "store ", "store X", "store +", "store +X", "store +XXX", "store +iXX", "store -iZZ",
                 "store +xx", "store + XX", "store +XX +ZZ", "store +XX ", " store +XX", "store  +XX", "store iXX",
                 "store +XA", "store 0", "Store +XX", "sign 0 0", "fault 0 0 1 0", "coins 1", "rounds 1", "patch", " "]
        self.spoil(3, wrong)
        self.spoil(4, wrong)

    def test_operators_that_do_not_generate_a_group(self):
        for texts in (("+XX", "+XX"), ("+XX", "-XX"), ("+XX", "+ZI"), ("+XX", "+II"), ("+XX", "-II"), ("+II", "+ZZ")):
            lines = PLAIN[:3] + [f"store {text}" for text in texts] + PLAIN[5:]
            self.check(lines, 5)
            self.check(lines[:4] + ["", "# x"] + lines[4:] + ["x"], 7)
        self.check(["rounds 1", "patch 2 2", "store -I"], 3)
        # Only the last store line tells that the first two do not commute.
        self.check(["rounds 1"] + ["patch 2 2"] * 3 + ["store +XII", "store +ZII", "store +IIZ", "x"], 7)
        self.check(["rounds 1"] + ["patch 2 2"] * 3 + ["store +XII", "store +ZII", "store +iIZ", "x"], 7)
        self.check(["rounds 1"] + ["patch 2 2"] * 3 + ["store +XII", "store +ZII", "x"], 7)

    def test_sign_lines(self):
        wrong = ["sign", "sign 0", "sign 0 3", "sign 2 0", "sign 1 8", "sign 0 0 0", "sign 00 0", "sign 0 01",
                 "sign x 0", "sign 0 x", "sign -1 0", "sign 0 -1", "sign 0  1", "sign 0 1 ", " sign 0 1", "Sign 0 1",
                 "sign + 1", "sign 0 " + "1" * 61, "sign " + "1" * 60 + " 0"]
        for at in (5, 8, 11):
            self.spoil(at, wrong)

    def test_a_sign_may_occur_once(self):
        for at in (8, 9, 12):
            for line in ("sign 0 2", "sign 1 0", "sign 1 7"):
                self.check(PLAIN[:at] + [line] + PLAIN[at:], at + 1)

    def test_fault_lines(self):
        last = len(read_experiment(joined(PLAIN)).bank().memory(0).ops())
        wrong = ["fault", "fault 0", "fault 0 0", "fault 0 0 1", "fault 0 0 1 0 0", "fault 2 0 1 0", "fault 0 0 0 0",
                 "fault 0 0 2 0", "fault 0 0 0 2", "fault 0 0 1 3", f"fault 0 {last} 1 0", "fault 0 00 1 0",
                 "fault 0 0 01 0", "fault 0 0 1 x", "fault x 0 1 0", "fault 0 x 1 0", "fault -1 0 1 0",
                 "fault 0 -1 1 0", "fault 0 0 -1 0", "fault 0 0 1 -1", "fault 0 0  1 0", "fault 0 0 1 0 ",
                 " fault 0 0 1 0", "Fault 0 0 1 0", "fault 0 0 1" + "0" * 60 + " 0", "fault 0 " + "1" * 60 + " 1 0"]
        for at in (5, 9, 11):
            self.spoil(at, wrong)
        self.assertEqual(read_experiment(joined(PLAIN + [f"fault 0 {last - 1} 64 0"])).faults()[0][1],
                         (last - 1, 64, 0))

    def test_coins_lines(self):
        for at in (5, 9, 11):
            self.spoil(at, ["coins", "coins ", "coins 2", "coins 012", "coins 0 1", "coins x", "coins  1", "coins 1 ",
                            " coins 1", "Coins 1", "coins -1", "coins 0b1", "coins 1_0", "coins \u0661"])

    def test_other_lines(self):
        for at in range(len(PLAIN)):
            self.spoil(at, ["x", "0", " ", " #", "\t", "noise 1", "Fault", "\r", "+XX"])

    def test_skipped_lines_count(self):
        self.spoil(0, ["rounds 0"], ["", "# x", ""])
        self.spoil(4, ["store X"], ["#"])
        self.spoil(11, ["coins"], ["", "", "", ""])
        self.check(["rounds 1", "", "# patch", "patch 1 1"], 4)

    def test_the_first_wrong_line_counts(self):
        self.check(["rounds 0", "patch 0 0"], 1)
        self.check(PLAIN[:5] + ["sign 9 9", "fault 9 9 9 9", "x"], 6)
        self.check(PLAIN + ["coins 2", "x"], 13)


class TextTest(unittest.TestCase):

    def test_any_order(self):
        source = random.Random(2)
        head, tail = PLAIN[:5], PLAIN[5:-1]
        for _ in range(30):
            mixed = list(tail)
            source.shuffle(mixed)
            first, second = sorted(source.choices(range(len(mixed) + 1), k=2))
            mixed = mixed[:first] + ["coins 01"] + mixed[first:second] + ["coins 10"] + mixed[second:]
            own = [line for line in mixed if line.startswith("fault 1")]
            text = read_experiment(joined(head + mixed)).text()
            self.assertEqual(text, joined(PLAIN[:9] + own + ["coins 0110"]))
            self.assertEqual(read_experiment(text).text(), text)

    def test_signs_are_ordered_as_numbers(self):
        lines = ["rounds 1", "patch 4 4", "patch 2 2", "store +ZI", "store +IZ"]
        wanted = ["sign 0 2", "sign 0 9", "sign 0 10", "sign 1 1"]
        experiment = read_experiment(joined(lines + wanted[::-1]))
        self.assertEqual(experiment.text(), joined(lines + wanted))

    def test_stores_keep_their_order(self):
        lines = ["rounds 1", "patch 2 2", "patch 2 2", "store -ZZ", "store +XX"]
        self.assertEqual(read_experiment(joined(lines)).text(), joined(lines))

    def test_no_coins_line_without_coins(self):
        self.assertEqual(read_experiment(joined(PLAIN[:-1])).text(), joined(PLAIN[:-1]))

    def test_reading_again_gives_the_same(self):
        first = read_experiment(joined(PLAIN))
        second = read_experiment(first.text())
        self.assertEqual((first.paulis(), first.signs(), first.faults(), first.coins(), first.run()),
                         (second.paulis(), second.signs(), second.faults(), second.coins(), second.run()))

    def test_the_lists_are_new(self):
        experiment = read_experiment(joined(PLAIN))
        report = experiment.run()
        experiment.paulis().clear()
        experiment.coins().append(1)
        for lists in (experiment.signs(), experiment.faults()):
            self.assertIs(type(lists), list)
            for inner in lists:
                self.assertIs(type(inner), list)
                inner.clear()
            lists.clear()
        self.assertEqual(experiment.text(), joined(PLAIN))
        self.assertEqual(experiment.signs(), [[0, 0, 1], [1, 0, 0, 0, 0, 0, 0, 1]])
        self.assertEqual(experiment.faults(), [[(0, 1, 0)], [(4, 16, 16), (0, 0, 1)]])
        self.assertEqual(experiment.run(), report)


def written(source, sizes, rounds, signs, faults, paulis):
    """The text of an experiment, with its last lines in any order."""
    lines = [f"rounds {rounds}"] + [f"patch {rows} {columns}" for rows, columns in sizes]
    lines += [f"store {pauli_text(len(sizes), p)}" for p in paulis]
    tail = [f"sign {k} {j}" for k, row in enumerate(signs) for j, sign in enumerate(row) if sign]
    tail += [f"fault {k} {at} {x} {z}" for k, struck in enumerate(faults) for at, x, z in struck]
    tail += ["coins " + "".join(map(str, model.random_bits(source, source.randint(1, 60))))] * source.randrange(2)
    source.shuffle(tail)
    return joined(lines + tail)


class BearableTest(unittest.TestCase):

    def test_the_bounds(self):
        head = ["rounds 1", "patch 3 5", "patch 5 2", "store +XX", "store +ZZ"]
        # What the memories bear: one X and two Z, and two X and no Z.
        cases = [
            ([], True), (["fault 0 0 1 0"], True), (["fault 0 0 1 0", "fault 0 1 2 0"], False),
            (["fault 0 0 1 0"] * 2, False), (["fault 0 0 1 1", "fault 0 0 0 1"], True),
            (["fault 0 0 0 1"] * 3, False), (["fault 0 0 1 1", "fault 0 0 0 1", "fault 0 3 0 8"], False),
            (["fault 0 0 1 1"] * 2, False), (["fault 1 0 1 0"] * 2, True), (["fault 1 0 1 0"] * 3, False),
            (["fault 1 0 0 1"], False), (["fault 1 0 1 1"], False),
            (["fault 0 0 1 0", "fault 1 0 1 0", "fault 0 0 0 1", "fault 1 1 2 0", "fault 0 2 0 4"], True),
        ]
        for lines, bearable in cases:
            self.assertIs(read_experiment(joined(head + lines)).bearable(), bearable, lines)
        self.assertIs(read_experiment("rounds 1\npatch 2 2\nstore +X\n").bearable(), True)
        self.assertIs(read_experiment("rounds 1\npatch 2 2\nstore +X\nfault 0 0 0 1\n").bearable(), False)

    def test_bearable_faults_end_with_kept(self):
        source = random.Random(3)
        for sizes, rounds, times in (([(3, 3)], 2, 12), ([(2, 2), (3, 3)], 1, 8), ([(3, 4), (3, 3)], 2, 6),
                                     ([(5, 5)], 1, 5), ([(2, 2), (2, 3), (3, 2), (3, 3)], 1, 3)):
            bank = Bank(sizes, rounds)
            for _ in range(times):
                faults = bearable_faults(source, bank, len(sizes))
                text = written(source, sizes, rounds, random_signs(source, sizes), faults,
                               random_paulis(source, len(sizes)))
                experiment = read_experiment(text)
                self.assertIs(experiment.bearable(), True)
                self.assertEqual(experiment.run().splitlines()[-1], "kept")


class ReportTest(unittest.TestCase):

    def lines_of(self, experiment, sizes, rounds):
        """The lines about the memories, from the records of the faults alone."""
        for k, (rows, columns) in enumerate(sizes):
            record = record_of(rows, columns, rounds, experiment.signs()[k], experiment.faults()[k])
            fired = [len(fired_nodes(rows, columns, record, letter)) for letter in "XZ"]
            if max(fired) > 10:
                yield f"memory {k}: too many"
            else:
                decoding = experiment.bank().memory(k).decoded(record)
                edges = [len(decoding.edges(letter)) for letter in "XZ"]
                yield (f"memory {k}: fired {fired[0]} {fired[1]}, edges {edges[0]} {edges[1]}, "
                       f"flips {decoding.flip('X')} {decoding.flip('Z')}")

    def test_by_hand(self):
        head = "rounds 1\npatch 2 2\nstore "
        quiet = "memory 0: fired 0 0, edges 0 0, flips 0 0\n"
        self.assertEqual(read_experiment(head + "+X\n").run(), quiet + "kept\n")
        self.assertEqual(read_experiment(head + "-Y\nsign 0 0\nsign 0 1\ncoins 1011\n").run(), quiet + "kept\n")
        # X on column 0 is not noticed. It changes Z, and keeps X.
        flip = "fault 0 0 1 0\nfault 0 2 4 0\n"
        self.assertEqual(read_experiment(head + "+X\n" + flip).run(), quiet + "kept\n")
        self.assertEqual(read_experiment(head + "+Z\n" + flip).run(), quiet + "lost\n")

    def test_reports_that_end_with_lost(self):
        # All of column 0 is struck by X while the qubits wait: nothing is fired, and Z has changed.
        lines = ["rounds 1", "patch 3 3", "store +Z", "fault 0 0 1 0", "fault 0 3 8 0", "fault 0 6 64 0"]
        self.assertEqual(read_experiment(joined(lines)).run(), "memory 0: fired 0 0, edges 0 0, flips 0 0\nlost\n")
        # Two of three look like a fault at the third one, whose flip is 0, as it is not in row 0.
        self.assertEqual(read_experiment(joined(lines[:5])).run(), "memory 0: fired 1 0, edges 1 0, flips 0 0\nlost\n")

    def test_entangled_states_are_lost_by_one_memory(self):
        head = ["rounds 1", "patch 2 2", "patch 2 2", "store +XX", "store +ZZ"]
        flip = ["fault 1 0 1 0", "fault 1 2 4 0"]
        quiet = [f"memory {k}: fired 0 0, edges 0 0, flips 0 0" for k in (0, 1)]
        self.assertEqual(read_experiment(joined(head + flip)).run(), joined(quiet + ["lost"]))
        other = ["fault 0 0 1 0", "fault 0 2 4 0"]
        self.assertEqual(read_experiment(joined(head + flip + other)).run(), joined(quiet + ["kept"]))

    def test_reports_that_end_with_open(self):
        head = ["rounds 1", "patch 2 2", "patch 7 7", "patch 3 3", "store +XXX", "store +ZZI", "store +IZZ"]
        quiet = "memory 0: fired 0 0, edges 0 0, flips 0 0"
        ops = read_experiment(joined(head)).bank().memory(1).ops()
        for letter in (0, 1):
            apart = [r * 7 + c for r in (1, 3, 5) for c in (1, 3, 5)][:6]
            at = [ops.index(("wait", q)) for q in apart]
            masks = [(1 << q, 0) if letter == 0 else (0, 1 << q) for q in apart]
            lines = [f"fault 1 {k} {x} {z}" for k, (x, z) in zip(at, masks)]
            experiment = read_experiment(joined(head + lines + ["fault 2 4 16 0"]))
            self.assertIs(experiment.bearable(), False)
            self.assertEqual(experiment.run(), joined(
                [quiet, "memory 1: too many", "memory 2: fired 2 0, edges 1 0, flips 0 0", "open"]))
            # With one fault less there are ten fired nodes, which is not too many.
            report = read_experiment(joined(head + lines[:-1])).run().splitlines()
            fired = "fired 10 0" if letter == 0 else "fired 0 10"
            self.assertTrue(report[1].startswith(f"memory 1: {fired}, edges "))
            self.assertIn(report[3], ("kept", "lost"))

    def test_against_the_records(self):
        source = random.Random(4)
        endings = {}
        for sizes, rounds, most in (([(3, 3)], 2, 6), ([(2, 2), (3, 3)], 1, 4), ([(4, 4)], 2, 12), ([(5, 5)], 2, 20)):
            for _ in range(12):
                bank = Bank(sizes, rounds)
                faults = [model.random_faults(source, bank.memory(k).ops(), source.randint(0, most))
                          for k in range(len(sizes))]
                paulis = random_paulis(source, len(sizes))
                text = written(source, sizes, rounds, random_signs(source, sizes), faults, paulis)
                experiment = read_experiment(text)
                report = experiment.run().splitlines()
                wanted = list(self.lines_of(experiment, sizes, rounds))
                self.assertEqual(report[:-1], wanted)
                self.assertEqual(report[-1] == "open", any(line.endswith("too many") for line in wanted))
                endings[report[-1]] = True
                if experiment.bearable():
                    self.assertEqual(report[-1], "kept")
        self.assertEqual(sorted(endings), ["kept", "lost", "open"])

    def test_lost_and_kept_follow_from_the_errors(self):
        """A state is kept if what is left behind the corrections changes none of its operators."""
        source = random.Random(5)
        for _ in range(25):
            bank = Bank([(3, 3)], 1)
            memory = bank.memory(0)
            faults = model.random_faults(source, memory.ops(), 3)
            text = source.choice(["+X", "-Y", "-Z"])
            experiment = read_experiment(written(source, [(3, 3)], 1, [[0] * 8], [faults], [read_pauli(text)]))
            _, x, z = model.frame(memory.ops(), faults)
            decoding = memory.decoded(record_of(3, 3, 1, [0] * 8, faults))
            changed_z = model.odd((x ^ decoding.correction("X")) & 0b111)
            changed_x = model.odd((z ^ decoding.correction("Z")) & 0b1001001)
            changed = {"X": changed_x, "Z": changed_z, "Y": changed_x ^ changed_z}[text[1]]
            self.assertEqual(experiment.run().splitlines()[-1], "lost" if changed else "kept")


if __name__ == "__main__":
    unittest.main()
