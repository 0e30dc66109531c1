"""Points 44 and 45: tasks, questions that are answered from text."""

import unittest
from unittest import mock

from mingle.compiling import compile_text
from mingle.errors import InvalidTask, TooManyStates
from mingle.protocols import Rulebook
from mingle.protocoltext import format_protocol
from mingle.tasks import run_task
from samples import majority, pair

RIGHT_ONES = {"decide x >= 2": ["ask 2", "ask 0", "total 2", "mean 3", "test 2"],
              "protocol\n" + format_protocol(pair()) + "\nend": ["ask 1", "total 3", "mean 3"]}


def with_protocol(protocol, *questions):
    """The text of a task with this protocol."""
    text = format_protocol(protocol)
    return "\n".join(["protocol", *([text] if text else []), "end", *questions])


def with_formula(formula, *questions):
    return "\n".join(["decide " + formula, *questions])


def with_leader(output):
    """One leader, and inputs that do nothing; the output is that of all."""
    return Rulebook(["l", "a"], [("x", "a")], ["l"], [], [output, output])


class TaskTest(unittest.TestCase):
    def replies(self, text, *expected):
        self.assertEqual(run_task(text), list(expected))

    def test_document(self):
        self.replies("decide x + -1 * y >= 1\nask 2 1\nask 1 2\nask 1\ntest 3", "answer 1", "answer 0", "bad line", "right")

    def test_no_questions(self):
        self.replies("decide x >= 1")
        self.replies("decide true")
        self.replies(with_protocol(pair()))
        self.replies("protocol\nend")

    def test_the_protocol_without_states(self):
        self.replies("protocol\nend\nask\ntotal\nmean", "answer 0", "total 0", "0")
        # One empty line is the empty text as well.
        self.replies("protocol\n\nend\nask", "answer 0")

    def test_several_questions_in_order(self):
        told = with_protocol(pair(), "mean 3", "ask 1", "total 3", "ask 2", "mean 1", "total 0", "ask 0", "ask 1")
        self.replies(told, "4", "answer 1", "total 1", "no answer", "0", "total 0", "answer 0", "answer 1")

    def test_the_replies_are_a_new_list(self):
        run_task("decide x >= 1\nask 1").append("x")
        self.replies("decide x >= 1\nask 1", "answer 1")


class AskTest(TaskTest):
    def test_a_formula(self):
        questions = ["ask 0 0", "ask 3 1", "ask 1 0", "ask 1 2", "ask 2 2", "ask 3 0"]
        told = with_formula("x = 1 mod 2 and y < 2", *questions)
        self.replies(told, "answer 0", "answer 1", "answer 1", "answer 0", "answer 0", "answer 1")

    def test_no_agent(self):
        self.replies(with_formula("x = 0 mod 2", "ask 0", "ask 2"), "answer 0", "answer 1")
        self.replies(with_formula("true", "ask"), "answer 0")
        self.replies(with_protocol(Rulebook(["a"], [("x", "a")], [], [], [7]), "ask 0"), "answer 0")
        self.replies("protocol\nend\nask", "answer 0")

    def test_answers_from_0_to_9(self):
        for output in range(10):
            self.replies(with_protocol(with_leader(output), "ask 0", "ask 3"), *[f"answer {output}"] * 2)

    def test_no_answer(self):
        self.replies(with_protocol(pair(), "ask 1", "ask 2", "ask 5"), "answer 1", "no answer", "no answer")
        told = with_protocol(majority(), "ask 2 1", "ask 1 1", "ask 2 2", "ask 0 3")
        self.replies(told, "answer 1", "answer 0", "no answer", "answer 0")

    def test_different_answers_in_different_bottoms(self):
        rules = [("a", "b", "c", "c"), ("b", "a", "d", "d")]
        for outputs, reply in [([0, 0, 3, 3], "answer 3"), ([3, 3, 3, 4], "no answer"), ([3, 3, 4, 3], "no answer")]:
            protocol = Rulebook(list("abcd"), [("x", "a"), ("y", "b")], [], rules, outputs)
            self.replies(with_protocol(protocol, "ask 1 1"), reply)

    def test_answers_that_swing(self):
        rules = [("a", "s", "a", "t"), ("a", "t", "a", "s")]
        protocol = Rulebook(["a", "s", "t"], [("x", "a")], ["s"], rules, [1, 1, 0])
        self.replies(with_protocol(protocol, "ask 1", "total 1", "ask 0", "total 0"),
                     "no answer", "no total", "answer 1", "total 1")

    def test_leaders_alone(self):
        protocol = Rulebook(["l", "m"], [], ["l", "l"], [("l", "l", "m", "m")], [0, 5])
        self.replies(with_protocol(protocol, "ask", "total", "mean"), "answer 5", "total 10", "1")


class TotalTest(TaskTest):
    def test_totals(self):
        told = with_protocol(pair(), "total 0", "total 1", "total 7")
        self.replies(told, "total 0", "total 1", "total 1")
        self.replies(with_protocol(with_leader(9), "total 0", "total 20"), "total 9", "total 189")
        self.replies(with_formula("x >= 2", "total 3", "total 1", "total 0"), "total 3", "total 0", "total 0")
        self.replies("protocol\nend\ntotal", "total 0")

    def test_no_total(self):
        rules = [("a", "b", "c", "c"), ("b", "a", "d", "d")]
        for outputs, reply in [([0, 0, 3, 3], "total 6"), ([3, 3, 3, 4], "no total"), ([3, 3, 4, 3], "no total")]:
            protocol = Rulebook(list("abcd"), [("x", "a"), ("y", "b")], [], rules, outputs)
            self.replies(with_protocol(protocol, "total 1 1"), reply)
        # The sum may be the same where the outputs are not.
        protocol = Rulebook(list("abcdef"), [("x", "a"), ("y", "b")], [], [("a", "b", "c", "d"), ("b", "a", "e", "e")],
                            [0, 0, 1, 3, 2, 0])
        self.replies(with_protocol(protocol, "total 1 1", "ask 1 1"), "total 4", "no answer")


class MeanTest(TaskTest):
    def test_whole_ones(self):
        told = with_protocol(pair(), "mean 0", "mean 1", "mean 2", "mean 3", "mean 4")
        self.replies(told, "0", "0", "1", "4", "9")
        self.replies("protocol\nend\nmean", "0")

    def test_others(self):
        rules = [("a", "a", "b", "b"), ("a", "b", "b", "c"), ("b", "a", "c", "c")]
        protocol = Rulebook(list("abc"), [("x", "a")], [], rules, [0, 0, 0])
        self.replies(with_protocol(protocol, "mean 3", "mean 2"), "5 / 2", "1")

    def test_a_formula(self):
        self.replies(with_formula("x >= 1", "mean 1", "mean 2"), "0", "1")


class TestTest(TaskTest):
    def test_right(self):
        told = with_formula("x = 1 mod 2", *[f"test {size}" for size in range(14)])
        self.replies(told, *["right"] * 13, "bad line")
        self.replies(with_formula("x + -1 * y >= 1", "test 0", "test 4"), "right", "right")
        self.replies(with_formula("true", "test 12", "test 13"), "right", "bad line")

    def test_wrong(self):
        # Compiled protocols are right, so another one is put in the place of theirs.
        for text, other, replies in [
            ("x >= 2", "x >= 3", ["right", "wrong 2"]), ("x + y >= 1", "x >= 1 and y >= 0", ["wrong 0 1", "wrong 0 1"]),
            ("x >= 1 and y + z >= 1", "x + y + z >= 20", ["right", "wrong 1 0 1"]),
        ]:
            with mock.patch("mingle.tasks.compile_formula", lambda _: compile_text(other)):
                self.replies(with_formula(text, "test 1", "test 2"), *replies)
        with mock.patch("mingle.tasks.compile_formula", lambda _: with_leader(0)):
            self.replies(with_formula("x >= 0", "test 3", "test 0"), "wrong 0", "wrong 0")
        with mock.patch("mingle.tasks.compile_formula", lambda _: Rulebook(["l"], [], ["l"], [], [0])):
            self.replies(with_formula("true", "test 3"), "wrong")

    def test_sizes(self):
        for size in ["13", "20", "100", "9999", "012", "00", "-1", "+1", "1.0", "x", "", "12345", "1 1", "3 "]:
            self.replies(with_formula("x >= 1", f"test {size}", "test 12"), "bad line", "right")
        self.replies(with_formula("x >= 1", "test", "test 0"), "bad line", "right")

    def test_a_protocol(self):
        told = with_protocol(pair(), "test 3", "ask 1", "test 0", "test", "test 12")
        self.replies(told, "bad line", "answer 1", "bad line", "bad line", "bad line")
        self.replies("protocol\nend\ntest 1", "bad line")


class BadLineTest(TaskTest):
    def bad(self, *lines):
        """Each of the lines is bad, between right ones."""
        for begin, questions in RIGHT_ONES.items():
            for line in lines:
                for first in questions:
                    expected = run_task("\n".join([begin, first]))
                    self.assertNotIn(expected[0], ["bad line", "too large"])
                    self.replies("\n".join([begin, first, line, first]), *expected, "bad line", *expected)

    def test_lines_without_a_form(self):
        self.bad("what 1", "asks 1", "Ask 1", "ASK 1", "as 1", "1", "ask", "total", "mean", "answer 1", "end", "protocol",
                 "decide x >= 1", "state a 1", "# 1", "ask x", "ask one", "1 ask", "totals 1", "median 1", "_ask 1")

    def test_too_few_and_too_many_counts(self):
        for word in ["ask", "total", "mean"]:
            self.bad(word, f"{word} 1 1", f"{word} 1 2 3")
            told = with_formula("x + y >= 1", word, f"{word} 1", f"{word} 0 0", f"{word} 1 1 1", f"{word} 1 1 ")
            zero = {"ask": "answer 0", "total": "total 0", "mean": "0"}[word]
            self.replies(told, "bad line", "bad line", zero, "bad line", "bad line")
            self.replies("\n".join(["protocol", "end", word, f"{word} 0", f"{word} "]), zero, "bad line", "bad line")
            self.replies(with_formula("true", f"{word} 1", word), "bad line", zero)

    def test_numbers(self):
        for word in ["ask", "total", "mean", "test"]:
            self.bad(*[f"{word} {number}" for number in ["-1", "+1", "-0", "01", "00", "0001", "10000", "12345", "1.0", "1e2",
                                                         "0x1", "1_0", "x", "1,", "(1)", "1/2", "12 34", "99999999999"]])

    def test_spaces(self):
        for word in ["ask", "total", "mean", "test"]:
            self.bad(f"{word}  1", f" {word} 1", f"{word} 1 ", f"  {word} 1", f"{word} 1  ", f"{word}1", f"{word} ",
                     f"{word}  ")
        self.replies(with_formula("x + y >= 1", "ask 1  1", "ask 1 1"), "bad line", "answer 1")

    def test_the_empty_line(self):
        self.bad("", " ", "  ")
        self.replies("decide x >= 1\n", "bad line")
        self.replies("decide x >= 1\n\nask 1\n", "bad line", "answer 1", "bad line")
        self.replies("protocol\nend\n", "bad line")

    def test_four_digits(self):
        protocol = Rulebook(["a"], [("x", "a")], [], [], [3])
        told = with_protocol(protocol, "ask 9999", "total 9999", "mean 9999", "ask 10000", "total 1000", "total 0")
        self.replies(told, "answer 3", "total 29997", "0", "bad line", "total 3000", "total 0")


class TooLargeTest(TaskTest):
    def test_2000_places(self):
        told = with_protocol(pair(), "ask 2000", "total 2000", "mean 2000", "ask 2001", "total 2001", "mean 2001", "ask 1")
        self.replies(told, "no answer", "total 1", "too large", "too large", "too large", "too large", "answer 1")

    def test_a_formula(self):
        questions = ["ask 9 9", "total 9 9", "mean 9 9", "test 12", "ask 1 0", "test 4"]
        told = with_formula("x + -1 * y >= 1", *questions)
        self.replies(told, *["too large"] * 4, "answer 1", "right")

    def test_120_places_for_the_mean(self):
        self.replies(with_protocol(pair(), "mean 121", "mean 122", "mean 3"), "14400", "too large", "4")

    def test_bad_lines_are_not_too_large(self):
        told = with_protocol(pair(), "ask 20000", "mean 122 1", "test 9999", "total 02001")
        self.replies(told, *["bad line"] * 4)


class RefusedTest(unittest.TestCase):
    def refused(self, *texts):
        for text in texts:
            with self.assertRaises(InvalidTask):
                run_task(text)

    def test_another_first_line(self):
        self.refused("", "\n", "ask 1", "decide", "Decide x >= 1", "decides x >= 1", " decide x >= 1", "protocols\nend",
                     "Protocol\nend", "protocol \nend", " protocol\nend", "end", "\ndecide x >= 1", "decidex >= 1",
                     "\nprotocol\nend", "protocol x\nend", "state a 1\nend", "x >= 1")

    def test_formulas_that_are_not_valid(self):
        self.refused("decide ", "decide  x >= 1", "decide x >= 1 ", "decide x", "decide x >= 21", "decide x = 1 mod 21",
                     "decide ( x >= 1 )", "decide and >= 1", "decide x >= 1 and", "decide x >= 1\t", "decide X >= 1",
                     "decide\nx >= 1", "decide decide x >= 1", "decide x >= 01\nask 1")

    def test_protocols_that_are_not_valid(self):
        self.refused("protocol\nstate a\nend", "protocol\nstate a 1\nstate a 1\nend", "protocol\nrule a a to a a\nend",
                     "protocol\nstate a 10\nend\nask", "protocol\nstate a 1\n\nend", "protocol\n\nstate a 1\nend",
                     "protocol\nstate a 1 \nend", "protocol\ninput x a\nstate a 1\nend", "protocol\nprotocol\nend",
                     "protocol\nask 1\nend", "protocol\nEND\nend", "protocol\nstate a 1\n end\nend")

    def test_a_missing_end(self):
        text = format_protocol(pair())
        self.refused("protocol", "protocol\n", "protocol\n" + text, "protocol\n" + text + "\n", "protocol\nask 1",
                     "protocol\n" + text + "\nend ", "protocol\n" + text + "\n end", "protocol\n" + text + "\nEnd",
                     "protocol\n" + text + "\nends\nask 1", "protocol end")

    def test_an_end_for_a_formula_is_a_bad_line(self):
        self.assertEqual(run_task("decide x >= 1\nend\nask 1"), ["bad line", "answer 1"])

    def test_the_first_end_counts(self):
        self.assertEqual(run_task(with_protocol(pair(), "end", "ask 1", "end")), ["bad line", "answer 1", "bad line"])
        self.refused("protocol\nstate a\nend\nend")

    def test_too_many_states(self):
        for text in ["decide x >= 20 and y >= 20", "decide x >= 20 and y >= 20\nask 1 1\nwhat"]:
            with self.assertRaises(TooManyStates) as caught:
                run_task(text)
            self.assertEqual(caught.exception.limit, 400)
        self.refused("decide x >= 20 and y >= 20 and z >= 21")


if __name__ == "__main__":
    unittest.main()
