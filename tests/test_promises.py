"""What the document promises over the whole program, over drawn texts: of T1 to T4 what the calls say of one
another, and the one sentence: a text that's read is one tree, a tree that's written is one text, and what was
written is read as what it was."""

import unittest

from tests.helper import (
    CALLS_OF_TREES, Told, all_nodes_of, are_same, coded, greatest_node, kinds_of, names_of, nodes_of, tree_of,
    written_of,
)
from tests.test_drawn import Drawer, changed
from twigtext.calls import read


def texts_of(seed):
    """Texts of one tree: without what is needless, with some of it, with much."""
    found = []
    for look, needless in enumerate((0, 0.1, 0.4)):
        drawer = Drawer(seed, look, needless)
        found.append(drawer.spread(drawer.program()[0]))
    return found


def still_programs(seed):
    """Texts near a drawn one that are read too: a byte is changed, left out or put in."""
    drawer = Drawer(seed)
    text = coded(drawer.spread(drawer.program()[0]))
    found = [changed(drawer.lot, text) for change in range(4)]
    return ["".join(map(chr, other)) for other in found if read(other)[0] == 0]


def without_places(words):
    """Of each node its kind and how many nodes it has: what a tree tells of them."""
    return [(kind, number) for kind, start, end, number in all_nodes_of(words)]


class OneSentence(unittest.TestCase):
    def holds(self, words):
        tree = tree_of(words)
        written = written_of(words)
        self.assertEqual(tree_of(written), tree, words)
        self.assertEqual(written_of(written), written, words)
        self.assertTrue(are_same(words, written), words)
        self.assertTrue(are_same(written, words), words)
        self.assertEqual(nodes_of(written), nodes_of(words), words)
        self.assertEqual(kinds_of(written), kinds_of(words), words)
        self.assertEqual(names_of(written), names_of(words), words)

    def test_of_drawn_texts(self):
        for seed in range(2000, 2300):
            for words in texts_of(seed):
                self.holds(words)

    def test_of_texts_near_them(self):
        found = [words for seed in range(2000, 2300) for words in still_programs(seed)]
        self.assertGreater(len(found), 100)
        for words in found:
            self.holds(words)

    def test_what_is_written_has_the_same_nodes(self):
        for seed in range(2300, 2350):
            for words in texts_of(seed)[1:]:
                self.assertEqual(without_places(words), without_places(written_of(words)), words)

    def test_one_text_for_each_tree(self):
        """Texts of two trees are written apart, those of one alike, and same tells which they are."""
        programs = [words for seed in range(2000, 2040) for words in texts_of(seed)[1:] + still_programs(seed)]
        told = [(words, tree_of(words), written_of(words)) for words in programs]
        alike = 0
        for words, tree, written in told:
            for other, other_tree, other_written in told[::7] + [(words, tree, written)]:
                alike += tree == other_tree
                self.assertEqual(written == other_written, tree == other_tree, (words, other))
                self.assertEqual(are_same(words, other), tree == other_tree, (words, other))
        self.assertGreater(alike, len(told))


class TreesApart(unittest.TestCase):
    def test_texts_near_one_another(self):
        """Of a text and one near it: same says what read says of both."""
        apart = 0
        for seed in range(2400, 2700):
            words = texts_of(seed)[0]
            for other in still_programs(seed):
                equal = tree_of(words) == tree_of(other)
                apart += not equal
                self.assertEqual(are_same(words, other), equal, (words, other))
                self.assertEqual(are_same(other, words), equal, (words, other))
        self.assertGreater(apart, 50)

    def test_what_is_needless_leaves_nothing(self):
        """T3, by what same says."""
        for seed in range(2700, 2900):
            texts = texts_of(seed)
            for words in texts:
                self.assertTrue(are_same(texts[0], words), seed)
                self.assertTrue(are_same(words, texts[1]), seed)


class OneFault(unittest.TestCase):
    def test_all_calls_tell_one_fault(self):
        """T1: what one call refuses all others refuse likewise, but tokens, which asks less."""
        found = 0
        for seed in range(2900, 3000):
            drawer = Drawer(seed)
            text = coded(drawer.spread(drawer.program()[0]))
            for change in range(3):
                other = changed(drawer.lot, text)
                answer = read(other)
                if answer[0] != 0:
                    found += 1
                    for call in CALLS_OF_TREES + (greatest_node,):
                        self.assertEqual(call(other), answer)
        self.assertGreater(found, 150)


class DrawnNames(unittest.TestCase):
    def test_names_are_those_that_were_drawn(self):
        for seed in range(3000, 3600):
            drawer = Drawer(seed)
            words, tree = drawer.program()
            self.assertEqual(names_of(drawer.spread(words)), sorted(drawer.names), f"seed {seed}")

    def test_names_are_those_that_the_tree_tells(self):
        for seed in range(3000, 3300):
            for words in still_programs(seed):
                told = Told(tree_of(words))
                told.program()
                self.assertEqual(names_of(words), sorted(told.names), words)
