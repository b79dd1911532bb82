"""Papers, texts that tell a record and how it was decoded, and that can be checked without a decoder."""

from bastion.errors import InvalidPaper
from bastion.experiment import MAX_ROUNDS, number_in, numbers_in, sides_fit, text_of
from bastion.graph import life_graph, odd_nodes, total_flip
from bastion.joins import shows_least
from bastion.memory import LETTERS
from bastion.patch import patch
from bastion.record import changed_checks, fired_nodes

# The greatest number of digits of a number in a paper.
MAX_DIGITS = 200

# How many lines a paper has for each letter.
PART_LINES = 5


def line_of(word, numbers):
    """Returns a line of a word and some numbers."""
    return " ".join([word] + [str(number) for number in numbers])


def write_paper(memory, record, decoding):
    """Returns the paper of a record of a memory and of a Decoding of it."""
    lines = [line_of("patch", [memory.rows, memory.columns]), line_of("rounds", [memory.rounds])]
    lines.extend(["row " + "".join([str(bit) for bit in row]) for row in record])
    for letter in LETTERS:
        lines.append("letter " + letter)
        lines.append(line_of("edges", decoding.edges(letter)))
        lines.append(line_of("cuts", decoding.cuts(letter)))
        lines.append(line_of("flip", [decoding.flip(letter)]))
        lines.append(line_of("correction", [decoding.correction(letter)]))
    return text_of(lines)


def demand(holds):
    """Raises InvalidPaper if what must hold does not."""
    if not holds:
        raise InvalidPaper("the text is not a paper")


def lines_in(text):
    """Returns the list of the lines of a text, each of which must end with a line feed."""
    lines = text.split("\n")
    demand(lines.pop() == "")
    return lines


def numbers_behind(word, line):
    """Returns the list of the numbers behind the first word of a line, which must be the given one."""
    words = line.split(" ")
    demand(words[0] == word)
    numbers = numbers_in(words[1:], MAX_DIGITS)
    demand(min(numbers, default=0) >= 0)
    return numbers


def number_behind(word, line):
    """Returns the only number behind the first word of a line."""
    numbers = numbers_behind(word, line)
    demand(len(numbers) == 1)
    return numbers[0]


def row_in(line, count):
    """Returns the list of the bits of a row line."""
    words = line.split(" ")
    demand(len(words) == 2 and words[0] == "row" and len(words[1]) == count)
    demand(all([character in "01" for character in words[1]]))
    return [int(character) for character in words[1]]


def part_in(letter, lines):
    """Returns what the lines for a letter tell: edges, cuts, flip and correction."""
    demand(lines[0] == "letter " + letter)
    edges = numbers_behind("edges", lines[1])
    demand(all([edges[k - 1] < edges[k] for k in range(1, len(edges))]))
    cuts = numbers_behind("cuts", lines[2])
    demand(lines[3] in ("flip 0", "flip 1"))
    return (edges, cuts, number_behind("flip", lines[3]), number_behind("correction", lines[4]))


def read_paper(text):
    """Returns what a paper tells: rows, columns, rounds, the record, and a dict with the part of each letter."""
    lines = lines_in(text)
    demand(len(lines) > 2)
    sides = numbers_behind("patch", lines[0])
    demand(sides_fit(sides))
    rows, columns = sides
    rounds = number_behind("rounds", lines[1])
    demand(1 <= rounds <= MAX_ROUNDS)
    # Behind the rows of the record stand the parts of both letters.
    start = rounds + 4
    demand(len(lines) == start + 2 * PART_LINES)
    record = [row_in(line, rows * columns - 1) for line in lines[2:start]]
    middle = start + PART_LINES
    parts = {"X": part_in("X", lines[start:middle]), "Z": part_in("Z", lines[middle:])}
    return (rows, columns, rounds, record, parts)


def join_holds(graph, fired, edges, cuts):
    """Returns True if the edges are a join of the fired nodes and the cuts show that it is least, otherwise False."""
    nodes, listed = graph
    if max(edges, default=0) >= len(listed) or max(cuts, default=0) >> nodes:
        return False
    return odd_nodes(graph, edges) == fired and shows_least(graph, fired, len(edges), cuts)


def correction_holds(code, letter, correction, syndrome, flip):
    """Returns True if a correction has the syndrome and the logical bit that it should have, otherwise False."""
    if correction >> code.width:
        return False
    return code.syndrome(letter, correction) == syndrome and code.logical_bits(letter, correction) == [flip]


def part_holds(paper, letter):
    """Returns True if all that a paper says for a letter holds, otherwise False."""
    rows, columns, rounds, record, parts = paper
    edges, cuts, flip, correction = parts[letter]
    graph = life_graph(rows, columns, rounds, letter)
    fired = fired_nodes(rows, columns, record, letter)
    if not join_holds(graph, fired, edges, cuts) or flip != total_flip(graph, edges):
        return False
    syndrome = changed_checks(rows, columns, letter, record[0], record[-1])
    return correction_holds(patch(rows, columns), letter, correction, syndrome, flip)


def paper_holds(text):
    """Returns True if all that a paper says holds, otherwise False."""
    paper = read_paper(text)
    return all([part_holds(paper, letter) for letter in LETTERS])


def paper_weights(text):
    """Returns a tuple of the numbers of the edges for the letter X and for the letter Z."""
    parts = read_paper(text)[4]
    return tuple([len(parts[letter][0]) for letter in LETTERS])
