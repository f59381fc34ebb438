"""Programs drawn by lot from a fixed seed: a tree and its text are made side by side, then the text is read
and written.

The text has just the parentheses that the document's table of levels asks for, some needless ones, and
blanks, line ends, semicolons and comments between its tokens. What is needless is drawn by a lot of its own:
so one tree has many texts.
"""

import random
import unittest
from collections import Counter

from tests.helper import FLAGS, ROUNDINGS, Told, all_nodes_of, coded, counted, kinds_of, laid_out, least_gap, long
from tests.helper import marked, node_of, nodes_of, placed, short, spelled_tokens, without_marks
from twigtext.calls import at, nodes, read, tokens, write

BINARY = (
    ("or", 0x40, 1, 1, 2), ("and", 0x41, 2, 2, 3), ("==", 0x42, 4, 5, 5), ("!=", 0x43, 4, 5, 5),
    ("<", 0x44, 4, 5, 5), ("<=", 0x45, 4, 5, 5), (">", 0x46, 4, 5, 5), (">=", 0x47, 4, 5, 5),
    ("+", 0x48, 6, 6, 7), ("-", 0x49, 6, 6, 7), ("*", 0x4A, 7, 7, 8), ("/", 0x4B, 7, 7, 8),
    ("//", 0x4C, 7, 7, 8), ("%", 0x4D, 7, 7, 8), ("^", 0x4E, 9, 10, 8),
)

SORT_WORDS = """
whole fraction decimal half single double extended interval truth text flags error account value
""".split()


class Drawer:
    """Draws parts of programs: each as its tokens, with its nodes marked, and its tree's bytes; expressions with
    their level too. names has all names that were drawn; nodes has all nodes of the program drawn last by their
    tokens, starts where each token of the text spread last begins."""

    def __init__(self, seed, look=0, needless=0.1):
        self.lot = random.Random(seed)
        self.look = random.Random(f"{seed} {look}")
        self.needless = needless
        self.names = set()
        self.nodes = []
        self.starts = []

    def name(self):
        word = self.lot.choice(["a", "b9", "c_d", "e5", "n" * 31, "lets", "a0", "a_", "ab", "c_", "n" * 30, "b99"])
        self.names.add(word)
        return [word], short(word)

    def number(self):
        word = self.lot.choice(["0", "12", "1.5", "007p", "1e-5d", "3.25m", "0x"])
        return [word], short(word)

    def code(self):
        word = self.lot.choice(["EUR", "A1", "ABCDEFGH"])
        return [word], short(word)

    def text(self):
        held = self.lot.choice(["", "a b", "#;", "\\\n\"", "x" * 300])
        return ['"' + held.replace("\\", "\\\\").replace('"', '\\"').replace("\n", "\\n") + '"'], long(held)

    def row(self, draw, least, most, between=","):
        """Some parts with signs between them: all their tokens, and each one's bytes."""
        row, trees = [], []
        for at in range(self.lot.randint(least, most)):
            words, tree = draw()
            row += ([between] if at > 0 and between else []) + words
            trees.append(tree)
        return row, trees

    def maybe(self, before, draw):
        """A part that may be left out: the bytes begin with 0 or 1."""
        if self.lot.random() < 0.5:
            return [], [0]
        words, tree = draw()
        return before + words, [1] + tree

    def typed(self, deep):
        name, name_tree = self.name()
        sort, sort_tree = self.sort(deep)
        return name + [":"] + sort, name_tree + sort_tree

    def sort(self, deep):
        words, tree = self.any_sort(deep)
        return marked(words, tree[0]), tree

    def any_sort(self, deep):
        choice = self.lot.randint(0, 9 if deep > 0 else 3)
        if choice <= 2:
            word = self.lot.choice(SORT_WORDS)
            return [word], [SORT_WORDS.index(word) + 1]
        if choice == 3:
            words, tree = self.name()
            return words, [0x13] + tree
        if choice == 4:
            words, tree = self.number()
            return ["packed"] + words, [0x0F] + tree
        if choice == 5:
            words, tree = self.sort(deep - 1)
            return ["list", "of"] + words, [0x10] + tree
        if choice == 6:
            words, tree = self.maybe(["of"], lambda: self.sort(deep - 1))
            return ["fibre"] + words, [0x11] + tree
        if choice == 7:
            first, first_tree = self.name()
            second, second_tree = self.name()
            return first + ["."] + second, [0x14] + first_tree + second_tree
        row, trees = self.row(lambda: self.sort(deep - 1), 0, 3)
        result, result_tree = self.maybe(["->"], lambda: self.sort(deep - 1))
        return ["fn", "("] + row + [")"] + result, [0x12] + counted(*trees) + result_tree

    def at_level(self, level, deep):
        """E(k): an expression within parentheses if its own level is below."""
        words, tree, own = self.expression(deep)
        if own < level:
            words = ["("] + words + [")"]
        while self.look.random() < self.needless:
            words = ["("] + words + [")"]
        return words, tree

    def any_level(self, deep):
        return self.at_level(0, deep)

    def expression(self, deep):
        words, tree, own = self.any_expression(deep)
        return marked(words, tree[0]), tree, own

    def any_expression(self, deep):
        if deep <= 0:
            return self.plain()
        draw = self.lot.choice([
            self.plain, self.binary, self.binary, self.binary, self.choice, self.prefixed, self.cast, self.called,
            self.indexed, self.member, self.listed, self.made,
        ])
        return draw() if draw == self.plain else draw(deep - 1)

    def plain(self):
        kind = self.lot.randint(0x20, 0x27)
        if kind == 0x27:
            row, trees = self.row(self.flag, 0, 4)
            return ["only", "("] + row + [")"], [0x27, self.bits(trees)], 11
        if kind in (0x22, 0x23, 0x24):
            return [{0x22: "true", 0x23: "false", 0x24: "flags"}[kind]], [kind], 11
        words, tree = {0x20: self.number, 0x21: self.text, 0x25: self.name, 0x26: self.code}[kind]()
        return words, [kind] + tree, 11

    def flag(self):
        bit = self.lot.randint(0, 6)
        return [FLAGS[bit]], [bit]

    def bits(self, trees):
        return sum(1 << bit for bit in {tree[0] for tree in trees})

    def binary(self, deep):
        sign, kind, own, left, right = self.lot.choice(BINARY)
        first, first_tree = self.at_level(left, deep)
        second, second_tree = self.at_level(right, deep)
        return first + [sign] + second, [kind] + first_tree + second_tree, own

    def choice(self, deep):
        parts = [self.any_level(deep) for word in ("if", "then", "else")]
        words = ["if"] + parts[0][0] + ["then"] + parts[1][0] + ["else"] + parts[2][0]
        return words, [0x33] + parts[0][1] + parts[1][1] + parts[2][1], 0

    def prefixed(self, deep):
        word = self.lot.choice(["not", "-", "spawn", "resume", "picture"])
        if word == "not":
            words, tree = self.at_level(3, deep)
            return ["not"] + words, [0x2F] + tree, 3
        if word == "-":
            words, tree = self.at_level(8, deep)
            return ["-"] + words, [0x2E] + tree, 8
        words, tree = self.at_level(10, deep)
        if word == "spawn":
            return ["spawn"] + words, [0x30] + tree, 8
        if word == "resume":
            given, given_tree = self.maybe(["giving"], lambda: self.at_level(8, deep))
            return ["resume"] + words + given, [0x31] + tree + given_tree, 8
        text, text_tree = self.text()
        return ["picture"] + text + ["of"] + words, [0x32] + text_tree + tree, 8

    def cast(self, deep):
        words, tree = self.at_level(5, deep)
        sort, sort_tree = self.sort(deep)
        number, number_tree = self.maybe([], self.number)
        rounding = self.lot.randint(0, 8)
        words = words + ["as"] + sort + number + ([ROUNDINGS[rounding - 1]] if rounding > 0 else [])
        return words, [0x34] + tree + sort_tree + number_tree + [rounding], 5

    def called(self, deep):
        words, tree = self.at_level(10, deep)
        row, trees = self.row(lambda: self.any_level(deep), 0, 3)
        return words + ["("] + row + [")"], [0x2B] + tree + counted(*trees), 10

    def indexed(self, deep):
        words, tree = self.at_level(10, deep)
        inner, inner_tree = self.any_level(deep)
        return words + ["["] + inner + ["]"], [0x2C] + tree + inner_tree, 10

    def member(self, deep):
        words, tree = self.at_level(10, deep)
        name, name_tree = self.name()
        return words + ["."] + name, [0x2D] + tree + name_tree, 10

    def listed(self, deep):
        if self.lot.random() < 0.3:
            row, trees = self.row(lambda: self.any_level(deep), 2, 2, "..")
            return ["["] + row + ["]"], [0x29] + trees[0] + trees[1], 11
        row, trees = self.row(lambda: self.any_level(deep), 0, 3)
        return ["["] + row + ["]"], [0x28] + counted(*trees), 11

    def made(self, deep):
        name, name_tree = self.name()
        row, trees = self.row(lambda: self.setting(deep), 0, 3)
        words, tree = ["make"] + name + ["("] + row + [")"], [0] + name_tree
        if self.lot.random() < 0.5:
            module, module_tree = self.name()
            words, tree = ["make"] + module + ["."] + name + ["("] + row + [")"], [1] + module_tree + name_tree
        return words, [0x2A] + tree + counted(*trees), 11

    def setting(self, deep):
        name, name_tree = self.name()
        words, tree = self.any_level(deep)
        return name + [":"] + words, name_tree + tree

    def chain(self, deep, called):
        words, tree = self.name()
        words, tree = marked(words, 0x25), [0x25] + tree
        for at in range(self.lot.randint(0, 3)):
            words, tree = self.link(words, tree, self.lot.choice("([."), deep)
        if called or tree[0] == 0x2B:
            words, tree = self.link(words, tree, "(" if called else self.lot.choice("[."), deep)
        return words, tree

    def link(self, words, tree, sign, deep):
        words, tree = self.any_link(words, tree, sign, deep)
        return marked(words, tree[0]), tree

    def any_link(self, words, tree, sign, deep):
        if sign == ".":
            name, name_tree = self.name()
            return words + ["."] + name, [0x2D] + tree + name_tree
        if sign == "[":
            inner, inner_tree = self.any_level(deep)
            return words + ["["] + inner + ["]"], [0x2C] + tree + inner_tree
        row, trees = self.row(lambda: self.any_level(deep), 0, 2)
        return words + ["("] + row + [")"], [0x2B] + tree + counted(*trees)

    def block(self, deep):
        row, trees = self.row(lambda: self.statement(deep), 0, 3 if deep > 0 else 1, "")
        return ["{"] + row + ["}"], counted(*trees)

    def statement(self, deep):
        plain = [self.let, self.given, self.call, self.word, self.flags_given, self.spoken, self.yielded, self.posted]
        nested = [self.branches, self.loop, self.counting, self.matched, self.moded, self.tried]
        words, tree = self.lot.choice(plain + nested if deep > 0 else plain)(deep - 1)
        return marked(words, tree[0]), tree

    def let(self, deep, kind=0x60):
        name, name_tree = self.name()
        sort, sort_tree = self.maybe([":"], lambda: self.sort(2))
        value, value_tree = self.any_level(2)
        return ["let"] + name + sort + ["="] + value, [kind] + name_tree + sort_tree + value_tree

    def given(self, deep):
        words, tree = self.chain(1, False)
        value, value_tree = self.any_level(2)
        return words + ["="] + value, [0x61] + tree + value_tree

    def call(self, deep):
        words, tree = self.chain(1, True)
        return words, [0x62] + tree

    def flags_given(self, deep):
        value, tree = self.any_level(2)
        return ["flags", "="] + value, [0x63] + tree

    def word(self, deep):
        kind = self.lot.choice([0x68, 0x69, 0x6A, 0x6B, 0x6E])
        word = {0x68: "return", 0x69: "leave", 0x6A: "break", 0x6B: "next", 0x6E: "raise"}[kind]
        value, tree = self.any_level(2) if kind in (0x68, 0x6E) else ([], [])
        return [word] + value, [kind] + tree

    def spoken(self, deep):
        row, trees = self.row(lambda: self.any_level(2), 1, 3)
        return ["say"] + row, [0x6F] + counted(*trees)

    def yielded(self, deep):
        value, tree = self.any_level(2)
        name, name_tree = self.maybe(["into"], self.name)
        return ["yield"] + value + name, [0x70] + tree + name_tree

    def posted(self, deep):
        parts = [self.any_level(1) for word in ("post", ":", "from")]
        text, text_tree = self.maybe([], self.text)
        words = ["post"] + parts[0][0] + [":"] + parts[1][0] + ["from"] + parts[2][0] + text
        return words, [0x71] + parts[0][1] + parts[1][1] + parts[2][1] + text_tree

    def branch(self, deep):
        value, tree = self.any_level(1)
        block, block_tree = self.block(deep)
        return ["if"] + value + block, tree + block_tree

    def branches(self, deep):
        row, trees = self.row(lambda: self.branch(deep), 1, 3, "else")
        last, last_tree = self.maybe(["else"], lambda: self.block(deep))
        return row + last, [0x64] + counted(*trees) + last_tree

    def loop(self, deep):
        value, tree = self.any_level(1)
        block, block_tree = self.block(deep)
        return ["while"] + value + block, [0x65] + tree + block_tree

    def counting(self, deep):
        name, name_tree = self.name()
        value, tree = self.any_level(1)
        to, to_tree = self.maybe(["to"], lambda: self.any_level(1))
        block, block_tree = self.block(deep)
        return ["for"] + name + ["in"] + value + to + block, [0x66] + name_tree + tree + to_tree + block_tree

    def case(self, deep):
        sort, sort_tree = self.sort(1)
        name, name_tree = self.name()
        block, block_tree = self.block(deep)
        return ["is"] + sort + name + block, sort_tree + name_tree + block_tree

    def matched(self, deep):
        value, tree = self.any_level(1)
        row, trees = self.row(lambda: self.case(deep), 0, 3, "")
        last, last_tree = self.maybe(["else"], lambda: self.block(deep))
        return ["match"] + value + ["{"] + row + last + ["}"], [0x67] + tree + counted(*trees) + last_tree

    def mode(self):
        which = self.lot.randint(0, 3)
        if which == 0:
            byte = self.lot.randint(0, 3)
            return ["rounding", ROUNDINGS[byte]], [0, byte]
        if which == 1:
            words, tree = self.number()
            return ["precision"] + words, [1] + tree
        if which == 2:
            row, trees = self.row(self.flag, 1, 4, "")
            return ["trap"] + row, [2, self.bits(trees)]
        byte = self.lot.randint(0, 2)
        return ["flush", ["in", "out", "both"][byte]], [3, byte]

    def moded(self, deep):
        row, trees = self.row(self.mode, 1, 3)
        block, tree = self.block(deep)
        return ["with"] + row + block, [0x6C] + counted(*trees) + tree

    def caught(self, deep):
        name, name_tree = self.name()
        block, tree = self.block(deep)
        return name + block, name_tree + tree

    def tried(self, deep):
        block, tree = self.block(deep)
        caught, caught_tree = self.maybe(["catch"], lambda: self.caught(deep))
        last, last_tree = self.maybe(["finally"], lambda: self.block(deep))
        if caught == [] and last == []:
            last, last_tree = ["finally", "{", "}"], [1, 0, 0, 0, 0]
        return ["try"] + block + caught + last, [0x6D] + tree + caught_tree + last_tree

    def declaration(self):
        words, tree = self.any_declaration()
        return marked(words, tree[0]), tree

    def any_declaration(self):
        which = self.lot.randint(0, 5)
        if which == 0:
            return self.let(2, 0x80)
        name, name_tree = self.name()
        if which == 1:
            code, code_tree = self.code()
            return ["account"] + name + code, [0x82] + name_tree + code_tree
        row, trees = self.row(lambda: self.typed(2), 0, 3)
        if which == 2:
            return ["record"] + name + ["{"] + row + ["}"], [0x81] + name_tree + counted(*trees)
        sorts, sort_trees = self.row(self.name, 0, 2)
        result, result_tree = self.maybe(["->"], lambda: self.sort(2))
        block, block_tree = self.block(3)
        words = ["fn"] + name + (["["] + sorts + ["]"] if sorts else []) + ["("] + row + [")"] + result + block
        return words, [0x83] + name_tree + counted(*sort_trees) + counted(*trees) + result_tree + block_tree

    def program(self):
        name, name_tree = self.name()
        used, used_trees = self.row(self.used, 0, 3, "")
        row, trees = self.row(self.declaration, 0, 3, "")
        words, self.nodes = without_marks(marked(["module"] + name + used + row, 0x90))
        return words, [0x90] + name_tree + counted(*used_trees) + counted(*trees)

    def used(self):
        name, tree = self.name()
        return ["use"] + name, tree

    def spread(self, words):
        """The tokens with all sorts of nothing between them, or none where none is needed."""
        gaps = [
            self.look.choice([" ", "\n", ";", " # c\n", "  ", ""]) or least_gap(before, word)
            for before, word in zip([""] + words, words)
        ]
        text, self.starts = laid_out(words, gaps, self.look.choice(["", "\n", " # end"]))
        return text


def changed(lot, text):
    """The text with a byte changed, left out or put in."""
    place = lot.randrange(len(text))
    byte = lot.choice(coded("a1A \"\\#.-=(){}[],:\n!") + [lot.randrange(256)])
    return text[:place] + lot.choice([[], [byte], [byte, text[place]]]) + text[place + 1:]


class Drawn(unittest.TestCase):
    def test_programs_are_read_as_their_trees(self):
        for seed in range(1500):
            drawer = Drawer(seed)
            words, tree = drawer.program()
            text = drawer.spread(words)
            answer = read(coded(text))
            self.assertNotEqual(answer, [-6], f"seed {seed}: draw less deep")
            self.assertEqual(answer, [0, len(tree)] + tree, f"seed {seed}: {text}")

    def test_tokens_are_those_that_were_put_together(self):
        for seed in range(300):
            drawer = Drawer(seed)
            words, tree = drawer.program()
            text = drawer.spread(words)
            answer = tokens(coded(text))
            spelled = [text[answer[at + 1]:answer[at + 2]] for at in range(2, len(answer), 3)]
            self.assertEqual((answer[1], spelled), (len(words), words), f"seed {seed}: {text}")

    def test_a_text_is_one_tree_or_has_one_fault(self):
        """T1: of programs with a byte changed, left out or put in, too."""
        for seed in range(600):
            drawer = Drawer(seed)
            text = coded(drawer.spread(drawer.program()[0]))
            for change in range(4):
                self.judge(changed(drawer.lot, text))

    def judge(self, text):
        answer = read(text)
        if answer[0] == 0:
            self.assertEqual(answer[1], len(answer) - 2)
            self.assertEqual(answer[2], 0x90)
        else:
            self.assertEqual((len(answer), answer[0]), (3, -2), answer)
            self.assertIn(answer[1], (1, 2, 3))
            self.assertTrue(0 <= answer[2] <= len(text))
            self.assertEqual(answer[2] == len(text), answer[1] == 3)
            self.first_part_has_no_fault_before(text, answer)

    def first_part_has_no_fault_before(self, text, answer):
        """What stands before the place of a fault of rule 2 is a beginning of a program."""
        if answer[1] == 2:
            before = read(text[:answer[2]])
            self.assertTrue(before[0] == 0 or before == [-2, 3, answer[2]], (text, answer, before))


class DrawnAndWritten(unittest.TestCase):
    def written(self, text):
        answer = write(text)
        self.assertEqual(answer[:2], [0, len(answer) - 2])
        return answer[2:]

    def is_read_back(self, text):
        """T2; and what was written is written as it stands."""
        written = self.written(text)
        self.assertNotEqual(read(written), [-6], "draw less deep")
        self.assertEqual(read(written), read(text))
        self.assertEqual(self.written(written), written)

    def test_programs_are_written_by_the_documents_forms(self):
        for seed in range(1500):
            drawer = Drawer(seed)
            words, tree = drawer.program()
            text = coded(drawer.spread(words))
            told = Told(tree)
            self.assertEqual("".join(map(chr, self.written(text))), told.program(), f"seed {seed}")
            self.assertEqual(nodes(text), [0, len(told.kinds)], f"seed {seed}")

    def test_what_is_written_is_read_as_the_same_tree(self):
        for seed in range(1000):
            drawer = Drawer(seed)
            words, tree = drawer.program()
            self.is_read_back(coded(drawer.spread(words)))

    def test_changed_programs_are_read_back_too(self):
        """Those that are still programs with a byte changed, left out or put in."""
        found = 0
        for seed in range(600):
            drawer = Drawer(seed)
            text = coded(drawer.spread(drawer.program()[0]))
            for change in range(4):
                other = changed(drawer.lot, text)
                if read(other)[0] == 0:
                    found += 1
                    self.is_read_back(other)
                else:
                    self.assertEqual(write(other), read(other))
                    self.assertEqual(nodes(other), read(other))
        self.assertGreater(found, 200)

    def test_texts_of_one_tree_are_written_alike(self):
        """T3."""
        for seed in range(300):
            texts = []
            for look in range(4):
                drawer = Drawer(seed, look, 0.3 * (look % 2))
                words, tree = drawer.program()
                texts.append(coded(drawer.spread(words)))
                self.assertEqual(read(texts[-1]), [0, len(tree)] + tree)
            answers = [(write(text), nodes(text)) for text in texts]
            self.assertEqual(answers, answers[:1] * 4, f"seed {seed}")

    def test_no_parenthesis_is_written_but_those_that_are_needed(self):
        """The tokens of what is written are those that were drawn without needless parentheses."""
        for seed in range(600):
            words, tree = Drawer(seed, 0, 0).program()
            written = "".join(map(chr, self.written(coded(" ".join(words)))))
            spelled = [word for kind, word in spelled_tokens(written)]
            self.assertEqual(without_sets(spelled), without_sets(words), f"seed {seed}")


class DrawnNodes(unittest.TestCase):
    def test_each_node_stands_where_it_was_put(self):
        for seed in range(120):
            drawer = Drawer(seed)
            words, tree = drawer.program()
            text = drawer.spread(words)
            self.assertEqual(all_nodes_of(text), placed(drawer.nodes, words, drawer.starts), f"seed {seed}: {text}")

    def test_nodes_of_more_programs(self):
        for seed in range(120, 1000):
            drawer = Drawer(seed, 0, 0.4 * (seed % 2))
            words, tree = drawer.program()
            text = drawer.spread(words)
            found = placed(drawer.nodes, words, drawer.starts)
            for k in sorted({0, drawer.look.randrange(len(found)), len(found) - 1}):
                self.assertEqual(node_of(k, text), found[k], f"seed {seed}, node {k}: {text}")
            self.assertEqual(at(len(found), coded(text)), [-4], f"seed {seed}")

    def test_places_lie_in_one_another_as_nodes_do(self):
        """T4: of programs with a byte changed, left out or put in, too."""
        found = 0
        for seed in range(200, 260):
            drawer = Drawer(seed, 0, 0.3)
            text = coded(drawer.spread(drawer.program()[0]))
            self.lie_in_one_another("".join(map(chr, text)))
            for change in range(3):
                other = changed(drawer.lot, text)
                if read(other)[0] == 0:
                    found += 1
                    self.lie_in_one_another("".join(map(chr, other)))
        self.assertGreater(found, 20)

    def lie_in_one_another(self, text):
        """A node's nodes are those that follow it, as many as it has: these lie in it, others behind it."""
        answers = all_nodes_of(text)
        self.assertEqual(answers[0][3], nodes_of(text))
        for k, (kind, start, end, number) in enumerate(answers):
            self.assertTrue(0 <= start < end <= len(text))
            for inner in answers[k + 1:k + number]:
                self.assertTrue(start <= inner[1] and inner[2] <= end, (text, k))
            for behind in answers[k + number:]:
                self.assertLessEqual(end, behind[1], (text, k))

    def test_places_are_those_of_tokens(self):
        for seed in range(260, 300):
            drawer = Drawer(seed)
            words, tree = drawer.program()
            text = drawer.spread(words)
            ends = [start + len(word) for start, word in zip(drawer.starts, words)]
            for kind, start, end, number in all_nodes_of(text):
                self.assertIn(start, drawer.starts)
                self.assertIn(end, ends)

    def test_the_kinds_add_up_to_the_nodes(self):
        for seed in range(1000):
            drawer = Drawer(seed)
            words, tree = drawer.program()
            text = drawer.spread(words)
            told = Told(tree)
            told.program()
            self.assertEqual(kinds_of(text), sorted(Counter(told.kinds).items()), f"seed {seed}")
            self.assertEqual(sum(number for kind, number in kinds_of(text)), nodes_of(text), f"seed {seed}")

    def test_a_node_is_one_of_its_kind(self):
        for seed in range(300, 340):
            drawer = Drawer(seed)
            text = drawer.spread(drawer.program()[0])
            self.assertEqual(kinds_of(text), sorted(Counter(node[0] for node in all_nodes_of(text)).items()))


def without_sets(words):
    """A set's flags may be drawn in any order, and one of them more than once."""
    row = [word for word in words if word not in FLAGS]
    return [word for at, word in enumerate(row) if word != "," or row[at - 1:at] not in (["("], [","])]
