"""The calls: the order of refusals, long and deep texts, what is handed in, what is answered."""

import re
import time
import unittest

from tests.helper import CALLS_OF_TREES, GREATEST, coded, count, counted, greatest_node, name, number, program, short
from twigtext.calls import at, kinds, names, nodes, read, same, tokens, write

ALL_CALLS = (tokens, greatest_node) + CALLS_OF_TREES
LONGEST = 65536
SECONDS = 20


class Refusals(unittest.TestCase):
    def all_answer(self, text, answer):
        for call in ALL_CALLS:
            self.assertEqual(call(text), answer)

    def trees_answer(self, text, answer):
        for call in CALLS_OF_TREES:
            self.assertEqual(call(text), answer)

    def test_65536_and_65537_bytes(self):
        text = coded("module a") + [32] * (LONGEST - 8)
        self.assertEqual(tokens(text), [0, 2, 0, 0, 6, 1, 7, 8])
        self.assertEqual(read(text), [0, 11, 0x90, 1, 97, 0, 0, 0, 0, 0, 0, 0, 0])
        self.assertEqual(write(text), [0, 9] + coded("module a\n"))
        self.assertEqual(nodes(text), [0, 1])
        self.assertEqual(at(0, text), [0, 0x90, 0, 8, 1])
        self.assertEqual(kinds(text), [0, 1, 0x90, 1])
        self.assertEqual(names(text), [0, 1, 1, 97])
        self.assertEqual(same(text, coded("module a")), [0, 1])
        self.assertEqual(same(coded("module b"), text), [0, 0])
        self.all_answer(text + [32], [-1])
        self.all_answer([32] * 66000, [-1])

    def test_a_fault_at_the_end_of_a_text_as_long_as_is_allowed(self):
        self.all_answer(coded("module a") + [10] * (LONGEST - 9) + [0], [-2, 1, LONGEST - 1])
        self.trees_answer([32] * LONGEST, [-2, 3, LONGEST])
        self.assertEqual(tokens([32] * LONGEST), [0, 0])

    def test_too_long_goes_before_too_deep_and_before_faults(self):
        self.all_answer(coded("(" * 65537), [-1])
        self.all_answer([0] * 65537, [-1])
        self.all_answer(coded("module a let b = " + "(" * 101) + [0] * 66000, [-1])

    def test_too_deep_goes_before_faults(self):
        self.all_answer(coded("(" * 65536), [-6])
        self.all_answer(coded(")" + "(" * 101), [-6])
        self.all_answer(coded("(" * 101 + " 01 !"), [-6])
        self.all_answer(coded("+ " * 101 + '"x'), [-6])

    def test_a_depth_of_100_goes_on_to_faults(self):
        self.assertEqual(tokens(coded("(" * 100 + " 01")), [-2, 1, 101])
        self.trees_answer(coded("module a let b = " + "(" * 100 + " 01"), [-2, 1, 118])
        self.trees_answer(coded("module a let b = " + "(" * 100), [-2, 3, 117])

    def test_that_there_is_no_such_node_goes_last(self):
        for k in (1, 2, GREATEST):
            self.assertEqual(at(k, coded("module a")), [-4])
            self.assertEqual(at(k, coded("module a") + [32] * LONGEST), [-1])
            self.assertEqual(at(k, coded("module a let b = " + "(" * 101)), [-6])
            self.assertEqual(at(k, coded("module a let b")), [-2, 3, 14])
            self.assertEqual(at(k, coded("module a let if")), [-2, 2, 13])
            self.assertEqual(at(k, coded("module a 01")), [-2, 1, 9])

    def test_tokens_is_refused_by_faults_of_tokens_alone(self):
        self.assertEqual(tokens(coded("module if")), [0, 2, 0, 0, 6, 0, 7, 9])
        self.assertEqual(tokens(coded("1 2 } let")), [0, 4, 3, 0, 1, 3, 2, 3, 5, 4, 5, 0, 6, 9])
        self.all_answer(coded("module 01"), [-2, 1, 7])
        self.all_answer(coded('module "'), [-2, 3, 8])
        self.assertEqual(tokens(coded("} 01")), [-2, 1, 2])
        self.trees_answer(coded("} 01"), [-2, 2, 0])


class InTime(unittest.TestCase):
    """What texts near the greatest length are asked: an answer in a reasonable time."""

    def setUp(self):
        self.begun = time.perf_counter()

    def tearDown(self):
        self.assertLess(time.perf_counter() - self.begun, SECONDS)

    def filled(self, start, piece, end):
        """The text with as many pieces as there's room for, and how many."""
        many = (LONGEST - len(start) - len(end)) // len(piece)
        return coded(start + piece * many + end), many

    def is_tree(self, text, tree):
        answer = read(text)
        self.assertEqual(answer[:2], [0, len(tree)])
        self.assertTrue(answer[2:] == tree)

    def is_written(self, text, words, number):
        """What is written of the text, and how many nodes it has."""
        answer = write(text)
        self.assertEqual(answer[:2], [0, len(words)])
        self.assertTrue(answer[2:] == coded(words))
        self.assertEqual(nodes(text), [0, number])
        self.assertEqual(sum(kinds(text)[3::2]), number)
        self.assertEqual(at(0, text), [0, 0x90, 0, len(text), number])
        self.assertEqual(at(number, text), [-4])
        self.assertEqual(names(text)[:3], [0, len(set(re.findall(r"\b[a-f]\b", words))), 1])
        if len(words) <= LONGEST:
            self.assertEqual(same(text, coded(words)), [0, 1])


class LongTexts(InTime):
    def test_many_signs(self):
        text, many = self.filled("", "}", "")
        answer = tokens(text)
        self.assertEqual((many, answer[:5], answer[-3:]), (65536, [0, 65536, 5, 0, 1], [5, 65535, 65536]))
        self.assertEqual(read(text), [-2, 2, 0])

    def test_many_names_and_lists(self):
        text, many = self.filled("module a let b = [1", ",1", "]")
        self.is_tree(text, program([0x80] + short("b") + [0, 0x28] + count(many + 1) + number("1") * (many + 1)))
        self.is_written(text, "module a\n\nlet b = [1" + ", 1" * many + "]\n", many + 4)

    def test_many_statements(self):
        text, many = self.filled("module a fn f(){", "a=b()", "}")
        statement = [0x61] + name("a") + [0x2B] + name("b") + count(0)
        self.is_tree(text, program(
            [0x83] + short("f") + count(0) + count(0) + [0] + count(many) + statement * many))
        self.is_written(text, "module a\n\nfn f() {\n" + "  a = b()\n" * many + "}\n", 4 * many + 2)

    def test_many_calls_in_a_row_are_too_deep(self):
        text, many = self.filled("module a fn f(){", "a()", "}")
        for call in CALLS_OF_TREES:
            self.assertEqual(call(text), [-6])

    def test_many_declarations(self):
        text, many = self.filled("module a", " let b=1", "")
        self.is_tree(text, [0x90] + short("a") + count(0) + count(many) + ([0x80] + short("b") + [0] + number("1")) * many)
        self.is_written(text, "module a\n" + "\nlet b = 1\n" * many, 2 * many + 1)

    def test_many_branches(self):
        text, many = self.filled("module a fn f(){if b{}", "else if b{}", "}")
        self.is_tree(text, program(
            [0x83] + short("f") + count(0) + count(0) + [0] + count(1) + [0x64] + count(many + 1)
            + (name("b") + count(0)) * (many + 1) + [0]))
        self.is_written(text, "module a\n\nfn f() {\n  if b {}" + " else if b {}" * many + "\n}\n", many + 4)

    def test_a_long_word_a_long_number_a_long_comment(self):
        self.assertEqual(tokens(coded("a" * LONGEST)), [-2, 1, 0])
        self.assertEqual(tokens(coded("A" * LONGEST)), [-2, 1, 0])
        self.assertEqual(tokens(coded("1" * LONGEST)), [-2, 1, 0])
        self.assertEqual(tokens(coded('"' + "a" * (LONGEST - 1))), [-2, 1, 1025])
        self.assertEqual(tokens(coded("#" * LONGEST)), [0, 0])

    def test_long_texts_of_texts(self):
        text, many = self.filled("module a let b = [1", ',"' + "\\n" * 1024 + '"', "]")
        self.is_tree(text, program(
            [0x80] + short("b") + [0, 0x28] + counted(number("1"), *[[0x21, 0, 4] + [10] * 1024] * many)))
        self.is_written(
            text, "module a\n\nlet b = [1" + (', "' + "\\n" * 1024 + '"') * many + "]\n", many + 4)

    def test_many_statements_in_many_blocks(self):
        text, many = self.filled("module a fn f(){" + "while b{" * 20, "leave ", "}" * 21)
        heads = [" " * min(32, 2 * deep) + "while b {\n" for deep in range(1, 21)]
        ends = [" " * min(32, 2 * deep) + "}\n" for deep in range(20, -1, -1)]
        self.is_written(
            text, "module a\n\nfn f() {\n" + "".join(heads) + (" " * 32 + "leave\n") * many + "".join(ends), many + 42)


class DeepTexts(InTime):
    """The depth stays low where a token makes a number 0: these nest as deep as the text is long."""

    def test_sorts_within_sorts(self):
        text, many = self.filled("module a let b:", "fn()->", "whole=1")
        sort = ([0x12] + count(0) + [1]) * many + [0x01]
        self.assertGreater(many, 10000)
        self.is_tree(text, program([0x80] + short("b") + [1] + sort + number("1")))
        self.is_written(text, "module a\n\nlet b: " + "fn() -> " * many + "whole = 1\n", many + 4)
        for k in (0, 1, many // 2, many - 1):
            self.assertEqual(at(2 + k, text), [0, 0x12, 15 + 6 * k, len(text) - 2, many + 1 - k])
        self.assertEqual(at(2 + many, text), [0, 0x01, len(text) - 7, len(text) - 2, 1])

    def test_as_upon_as(self):
        text, many = self.filled("module a let b=c", " as account", "")
        self.assertGreater(many, 5000)
        self.is_tree(text, program([0x80] + short("b") + [0] + [0x34] * many + name("c") + [0x0D, 0, 0] * many))
        self.is_written(text, "module a\n\nlet b = c" + " as account" * many + "\n", 2 * many + 3)
        for k in (0, 1, many // 2, many - 1):
            self.assertEqual(at(2 + k, text), [0, 0x34, 15, len(text) - 11 * k, 2 * (many - k) + 1])
        self.assertEqual(at(2 + many, text), [0, 0x25, 15, 16, 1])

    def test_or_upon_or(self):
        text, many = self.filled("module a let b=c", " or c as account", "")
        cast = [0x34] + name("c") + [0x0D, 0, 0]
        self.is_tree(text, program([0x80] + short("b") + [0] + [0x40] * many + name("c") + cast * many))
        self.is_written(text, "module a\n\nlet b = c" + " or c as account" * many + "\n", 4 * many + 3)

    def test_if_within_if(self):
        text, many = self.filled("module a let b=", "if c as account then d else ", "e")
        branch = [0x33, 0x34] + name("c") + [0x0D, 0, 0] + name("d")
        self.assertGreater(many, 2000)
        self.is_tree(text, program([0x80] + short("b") + [0] + branch * many + name("e")))
        self.is_written(
            text, "module a\n\nlet b = " + "if c as account then d else " * many + "e\n", 5 * many + 3)

    def test_if_that_never_goes_on(self):
        text, many = self.filled("module a let b=", "if ", "")
        self.assertEqual(read(text), [-2, 3, len(text)])
        text, many = self.filled("module a let b=", "if ", "then")
        self.assertEqual(read(text), [-2, 2, len(text) - 4])

    def test_as_deep_as_is_allowed(self):
        text = coded("module a let b = " + "(" * 100 + "1" + ")" * 100)
        self.is_tree(text, program([0x80] + short("b") + [0] + number("1")))
        self.is_written(text, "module a\n\nlet b = 1\n", 3)
        text = coded("module a let b = " + "[" * 100 + "]" * 100)
        self.is_tree(text, program([0x80] + short("b") + [0] + ([0x28] + count(1)) * 99 + [0x28] + count(0)))
        self.is_written(text, "module a\n\nlet b = " + "[" * 100 + "]" * 100 + "\n", 102)

    def test_parentheses_as_deep_as_is_allowed(self):
        # A ( and the sign before it make 2 of the depth.
        value = "1 - (" * 49 + "1 - 1" + ")" * 49
        self.is_written(coded(f"module a let b = {value}"), f"module a\n\nlet b = {value}\n", 103)
        value = "(" * 49 + "1 ^ 1" + ") ^ 1" * 49
        self.is_written(coded(f"module a let b = {value}"), f"module a\n\nlet b = {value}\n", 103)


class HandedIn(unittest.TestCase):
    TEXTS = (
        "module a fn f(x:whole)->whole{return -x^2}", 'module a let b = "\\n\\"" # c', "module if", "01", "(" * 101,
        "module a let b = make m.r(x: [1 .. 2]) with", "", " " * 65537,
        'module a use b record c {d: fn()} fn f() { match (a) { is d e { say "\\n", (1) } else { with trap zero {} } } }',
    )

    def test_the_list_is_as_it_was(self):
        for words in self.TEXTS:
            for call in ALL_CALLS:
                text = coded(words)
                call(text)
                self.assertEqual(text, coded(words))

    def test_the_list_is_not_changed_for_a_while_either(self):
        for words in self.TEXTS:
            for call in ALL_CALLS:
                self.assertEqual(call(Unchanging(coded(words))), call(coded(words)))

    def test_two_lists_are_not_changed_either(self):
        for words in self.TEXTS:
            for others in self.TEXTS:
                text, other = Unchanging(coded(words)), Unchanging(coded(others))
                self.assertEqual(same(text, other), same(coded(words), coded(others)))
                self.assertEqual((text, other), (coded(words), coded(others)))

    def test_two_texts_a_second_time(self):
        pairs = [(words, others, same(coded(words), coded(others))) for words in self.TEXTS for others in self.TEXTS]
        for words, others, answer in reversed(pairs):
            self.assertEqual(same(coded(words), coded(others)), answer)
            names(coded(others))
            self.assertEqual(same(coded(words), coded(others)), answer)

    def test_no_node_is_kept(self):
        texts = [coded("module a let b = -1"), coded("module a"), coded("module a fn f() { leave }")]
        answers = [[0, 0x2E, 17, 19, 2], [-4], [0, 0x69, 18, 23, 1]]
        for text, answer in list(zip(texts, answers)) + list(zip(texts[::-1], answers[::-1])):
            self.assertEqual(at(2, text), answer)

    def test_a_second_call_answers_as_the_first(self):
        answers = [(call, words, call(coded(words))) for words in self.TEXTS for call in ALL_CALLS]
        for call, words, answer in reversed(answers):
            text = coded(words)
            self.assertEqual(call(text), answer)
            self.assertEqual(call(text), answer)

    def test_an_answer_that_is_changed_leaves_the_next_as_it_was(self):
        for words in self.TEXTS:
            for call in ALL_CALLS:
                first = call(coded(words))
                kept = list(first)
                first.clear()
                self.assertEqual(call(coded(words)), kept)

    def test_answers_are_lists_of_whole_numbers(self):
        for words in self.TEXTS + ("module a fn f() { with trap zero, flush in { say only(zero) as whole } }",):
            for call in ALL_CALLS:
                answer = call(coded(words))
                self.assertIs(type(answer), list)
                self.assertTrue(all(type(entry) is int for entry in answer), answer)


class Unchanging(list):
    """A list that fails when it's changed."""

    def fail(self, *rest):
        raise AssertionError("the list that was handed in is changed")

    append = clear = extend = insert = pop = remove = reverse = sort = fail
    __setitem__ = __delitem__ = __iadd__ = __imul__ = fail
