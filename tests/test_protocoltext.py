"""Points 7 and 8: written protocols."""

import unittest

from mingle.errors import InvalidText
from mingle.protocols import Rulebook
from mingle.protocoltext import format_protocol, parse_protocol
from samples import drawn_protocol, majority, names, pair, plain

PAIR = "state x 1\nstate z 0\ninput x x\nrule x x to x z"
ALL_FORMS = "state b 1\nstate a 0\ninput y a\ninput x b\nleader b\nleader a\nrule b a to a a\nrule a b to b b"


class FormatTest(unittest.TestCase):
    def test_pair(self):
        self.assertEqual(format_protocol(pair()), PAIR)

    def test_all_forms_in_their_own_order(self):
        protocol = Rulebook(
            ["b", "a"],
            [("y", "a"), ("x", "b")],
            ["b", "a"],
            [("b", "a", "a", "a"), ("a", "b", "b", "b")],
            [1, 0],
        )
        self.assertEqual(format_protocol(protocol), ALL_FORMS)
        self.assertTrue(parse_protocol(ALL_FORMS) == protocol)

    def test_without_states(self):
        self.assertEqual(format_protocol(Rulebook([], [], [], [], [])), "")

    def test_back_again(self):
        protocols = [pair(), majority(), plain(names(400)), Rulebook(["a"], [], ["a"] * 10, [], [9])]
        protocols += [drawn_protocol(seed, seed % 9 + 1) for seed in range(20)]
        for protocol in protocols:
            self.assertTrue(parse_protocol(format_protocol(protocol)) == protocol)


class ParseTest(unittest.TestCase):
    def accepted(self, *lines):
        text = "\n".join(lines)
        self.assertEqual(format_protocol(parse_protocol(text)), text)

    def refused(self, line, *lines):
        with self.assertRaises(InvalidText) as caught:
            parse_protocol("\n".join(lines))
        self.assertEqual(caught.exception.line, line, lines)

    def test_document(self):
        self.assertEqual(parse_protocol(PAIR).rules, (("x", "x", "x", "z"),))
        self.refused(2, "state x 1", "rule x z to x x")

    def test_result(self):
        self.assertTrue(parse_protocol(PAIR) == pair())

    def test_empty_string(self):
        self.assertTrue(parse_protocol("") == Rulebook([], [], [], [], []))

    def test_newlines_too_many(self):
        self.refused(1, "", "")
        self.refused(5, PAIR, "")
        self.refused(5, PAIR, "", "")
        self.refused(1, "", PAIR)
        self.refused(2, "state x 1", "", "state z 0")

    def test_kinds_may_be_left_out(self):
        self.accepted("state a 0")
        self.accepted("state a 0", "leader a")
        self.accepted("state a 0", "rule a a to a a")
        self.accepted("state a 0", "input a a", "rule a a to a a")

    def test_names_may_be_the_words_of_the_forms(self):
        self.accepted("state state 1", "state to 2", "input input to", "leader state", "rule to state to to to")

    def test_no_form(self):
        for line in ["", " ", "state", "input", "leader", "rule", "x", "state b", "input y", "leader a a", "to",
                     "state b 0 0", "input y a a", "rule a a to a", "rule a a to a a a", "rule a a a a",
                     "rule a a a a to", "rule a a as a a", "rule a to a a a", "rule a a TO a a", "State b 0",
                     "states b 0", "stat b 0", "leade a", "# state b 0"]:
            self.refused(2, "state a 1", line)
            self.refused(2, "state a 1", line, "junk")

    def test_the_form_of_another_kind(self):
        for line in ["state a", "input a", "rule a", "state a a", "leader a a", "rule a a", "input a 1", "leader b 0",
                     "rule b 0", "state a a to a a", "input a a to a a", "leader a a to a a"]:
            self.refused(2, "state a 1", line)

    def test_blanks(self):
        for line in ["state  b 0", "state b  0", " state b 0", "state b 0 ", "input  y a", "input y  a", "input y a ",
                     " input y a", "leader  a", "leader a ", " leader a", "rule a  a to a a", "rule a a  to a a",
                     "rule a a to  a a", "rule a a to a  a", "rule a a to a a ", " rule a a to a a", "leader ",
                     "state b "]:
            self.refused(2, "state a 1", line)

    def test_outputs(self):
        for output in range(10):
            self.accepted(f"state a {output}")
        for word in ["00", "01", "10", "-0", "-1", "+1", "1.0", "a", "0x1", "1_0", "one", "99999999999999999999"]:
            self.refused(1, f"state a {word}")

    def test_order(self):
        states = ["state a 0", "state b 1"]
        self.refused(4, *states, "input x a", "state c 0")
        self.refused(4, *states, "leader a", "state c 0")
        self.refused(4, *states, "rule a a to a b", "state c 0")
        self.refused(4, *states, "leader a", "input x a")
        self.refused(4, *states, "rule a a to a b", "input x a")
        self.refused(4, *states, "rule a a to a b", "leader a")
        self.refused(5, *states, "input x a", "rule a a to a b", "leader a", "junk")

    def test_states(self):
        self.refused(2, "state a 0", "state a 0")
        self.refused(3, "state a 0", "state b 0", "state a 1", "state b 0")
        for name in ["A", "1", "a-b", "abcdefghijklm"]:
            self.refused(2, "state a 0", f"state {name} 0")

    def test_number_of_states(self):
        lines = [f"state {name} 0" for name in names(402)]
        self.accepted(*lines[:400])
        self.refused(401, *lines[:401])
        self.refused(401, *lines)

    def test_inputs(self):
        self.refused(1, "input x a", "state a 0")
        self.refused(2, "state a 0", "input x b")
        self.refused(2, "state a 0", "input X a")
        self.refused(2, "state a 0", "input 1 a")
        self.refused(3, "state a 0", "input x a", "input x a")
        self.accepted("state a 0", "input x a", "input y a")

    def test_number_of_inputs(self):
        lines = [f"input {name} a" for name in names(10)]
        self.accepted("state a 0", *lines[:8])
        self.refused(10, "state a 0", *lines[:9])
        self.refused(10, "state a 0", *lines)

    def test_leaders(self):
        self.refused(2, "state a 0", "leader x")
        self.refused(3, "state a 0", "input x a", "leader x")
        self.accepted("state a 0", *["leader a"] * 10)
        self.refused(12, "state a 0", *["leader a"] * 11)
        self.refused(12, "state a 0", *["leader a"] * 12)

    def test_rules(self):
        for rule in ["b a to a a", "a b to a a", "a a to b a", "a a to a b"]:
            self.refused(2, "state a 0", f"rule {rule}")
        self.refused(3, "state a 0", "rule a a to a a", "rule a a to a a")
        self.refused(5, "state a 0", "state b 0", "rule a b to a a", "rule b a to a a", "rule a b to b b", "junk")

    def test_a_state_of_a_later_line_is_not_known(self):
        self.refused(2, "state a 0", "leader b", "state b 0")

    def test_the_first_of_several_wrong_lines(self):
        self.refused(2, "state a 0", "state a 0", "state  b 0", "leader c")
        self.refused(3, "state a 0", "leader a", "state b 0", "junk")
        self.refused(1, "junk", "junk")


if __name__ == "__main__":
    unittest.main()
