"""How a rule is written and read [9]."""

import copy
import random
import re
import unittest

from builders import GREAT, bent_texts, raised, random_rule
from sluiceway.errors import NoText
from sluiceway.texts import read_rule, shown_rule

NUMBER = "(0|[1-9][0-9]{0,39})"
STEP = rf"{NUMBER}\+{NUMBER} (river|pump)"
SEASON = f"{NUMBER}:( {STEP}(, {STEP})*)?"
GOOD = re.compile(f"{SEASON}(; {SEASON})*")
TOLD = "0: 40+10 river, 60+5 pump; 6:"
SIGNS = "019:+,; abrivepumx-\n\t.AR_"

# Texts and the rules that they write.
PAIRS = {
    TOLD: ((0, ((40, 10, "river"), (60, 5, "pump"))), (6, ())),
    "0:": ((0, ()),),
    "7:": ((7, ()),),
    "0: 0+0 river": ((0, ((0, 0, "river"),)),),
    "0: 0+1 pump": ((0, ((0, 1, "pump"),)),),
    "0:; 0:; 0:": ((0, ()), (0, ()), (0, ())),
    "9:; 3: 5+1 pump; 1:": ((9, ()), (3, ((5, 1, "pump"),)), (1, ())),
    "0: 9+9 river, 1+1 river, 0+0 pump, 1+1 river": (
        (0, ((9, 9, "river"), (1, 1, "river"), (0, 0, "pump"), (1, 1, "river"))),
    ),
    "0: 1+2 river; 3: 4+5 pump; 6: 7+8 river, 15+1 pump": (
        (0, ((1, 2, "river"),)), (3, ((4, 5, "pump"),)), (6, ((7, 8, "river"), (15, 1, "pump"))),
    ),
    f"{GREAT}: {GREAT}+{GREAT} river": ((GREAT, ((GREAT, GREAT, "river"),)),),
    "1" + "0" * 39 + ": 10+100 pump": ((10 ** 39, ((10, 100, "pump"),)),),
}


class RuleTexts(unittest.TestCase):
    def assert_no_rule(self, text):
        with self.subTest(text), self.assertRaises(NoText) as caught:
            read_rule(text)
        self.assertEqual(caught.exception.row, 0)

    def assert_written_and_read(self, text, rule):
        with self.subTest(text):
            before = copy.deepcopy(rule)
            self.assertEqual(shown_rule(rule), text)
            self.assertEqual(read_rule(text), rule)
            self.assertEqual(rule, before)

    def test_written_and_read(self):
        for text, rule in PAIRS.items():
            self.assert_written_and_read(text, rule)

    def test_what_is_read_is_of_tuples_texts_and_whole_numbers(self):
        rule = read_rule(TOLD)
        self.assertEqual([type(rule), type(rule[0]), type(rule[0][1]), type(rule[0][1][0])], [tuple] * 4)
        self.assertEqual([type(part) for part in rule[0][1][0]], [int, int, str])
        self.assertEqual((type(rule[1][0]), type(rule[1][1])), (int, tuple))

    def test_a_season_for_each_turn_and_stairs_of_forty_steps(self):
        stairs = tuple([(3 * step, 2, ("river", "pump")[step % 2]) for step in range(40)])
        rule = tuple([(first, stairs) for first in range(24)])
        self.assertEqual(read_rule(shown_rule(rule)), rule)
        self.assertTrue(GOOD.fullmatch(shown_rule(rule)))

    def test_rules_by_chance(self):
        chance = random.Random(9)
        for number in range(300):
            rule = random_rule(chance, 24, chance.choice((None, 9)))
            text = shown_rule(rule)
            self.assertTrue(GOOD.fullmatch(text), text)
            self.assertEqual(read_rule(text), rule)

    def test_whether_the_rule_is_good_for_a_house_is_not_asked(self):
        for text in ("5:", "0:; 0:", "99:; 3:", "0: 5+0 river", "0: 9+9 river, 0+1 pump"):
            self.assertEqual(shown_rule(read_rule(text)), text)

    def test_the_text_without_signs_and_bits_of_texts(self):
        for text in ("", " ", "\n", ":", ";", "; ", ",", "+", "0", "river", "0 :", ": 1+1 river", "0: ", "0: ;", "0:;"):
            self.assert_no_rule(text)
        for text in ("0: 1", "0: 1+", "0: +1 river", "0: 1+1", "0: 1+1 ", "0: 1+ river", "0: river", "0:1+1 river"):
            self.assert_no_rule(text)
        for text in ("; 0:", "0:; ", "0:; ; 1:", "0:, 1:", "0:;1:", "0:  ", "0: , ", "0: 1+1 river, ", "0: , 1+1 pump"):
            self.assert_no_rule(text)

    def test_each_sign_bent(self):
        for text in (TOLD, "0:", "0: 0+1 pump", "10:; 12: 3+4 river"):
            for bent in bent_texts(text, SIGNS):
                if GOOD.fullmatch(bent) is None:
                    self.assert_no_rule(bent)
                else:
                    with self.subTest(bent):
                        self.assertEqual(shown_rule(read_rule(bent)), bent)

    def test_each_ending_and_beginning(self):
        for cut in range(1, len(TOLD)):
            for text in (TOLD[:cut], TOLD[cut:]):
                if GOOD.fullmatch(text) is None:
                    self.assert_no_rule(text)
                else:
                    self.assertEqual(shown_rule(read_rule(text)), text)

    def test_blanks_and_line_ends(self):
        for text in PAIRS:
            for bent in (" " + text, text + " ", "\n" + text, text + "\n", text + "\r\n", "\t" + text, text + "\t"):
                self.assert_no_rule(bent)
        for place in [place for place, sign in enumerate(TOLD) if sign == " "]:
            for other in ("", "  ", "\t", "\n", " \n"):
                self.assert_no_rule(TOLD[:place] + other + TOLD[place + 1:])

    def test_a_mark_at_the_end(self):
        for text in PAIRS:
            for mark in (":", ";", "; ", ",", ", ", "+", "."):
                self.assert_no_rule(text + mark)

    def assert_number(self, word, good):
        """The word is read, or is not, as each of the three numbers of a rule."""
        for pattern in ("{}:", "0:; {}: 1+1 pump", "0: {}+5 river", "0: 1+1 pump, {}+5 river", "0: 5+{} pump; 6:"):
            text = pattern.replace("{}", word)
            if good:
                self.assertEqual(shown_rule(read_rule(text)), text)
            else:
                self.assert_no_rule(text)

    def test_numbers(self):
        for word in ("0", "1", "9", "10", "100", "1234567890", "1" * 39, "1" * 40, "9" * 40, "1" + "0" * 39):
            self.assert_number(word, True)

    def test_words_that_are_no_numbers(self):
        for word in ("", "00", "01", "007", "0" * 40, "0" + "1" * 39, "+1", "-1", "+0", "-0", "1" * 41, "1" + "0" * 40):
            self.assert_number(word, False)
        for word in ("1_0", "1.0", "1e3", "0x1", "a", "one", "1a", "a1", "1 ", " 1", "1,0", "1\n", "9" * 5000):
            self.assert_number(word, False)

    def test_every_sign_that_is_no_figure(self):
        for sign in [chr(number) for number in range(128) if not 48 <= number <= 57]:
            for word in (sign, sign + "1", "1" + sign + "1"):
                self.assert_no_rule(f"0: {word}+5 river")
                self.assert_no_rule(f"0: 5+{word} river")

    def test_figures_of_other_scripts_are_no_figures(self):
        for sign in ("\u0661", "\u00b2", "\uff11"):
            self.assert_number(sign, False)
            self.assert_number("1" + sign, False)

    def test_other_words_for_the_way(self):
        for way in ("", "sea", "River", "RIVER", "rive", "rivers", "pumps", "pum", "Pump", "none", "river pump", "1"):
            self.assert_no_rule(f"0: 1+1 {way}")
            self.assert_no_rule(f"0: 1+1 river, 3+1 {way}; 1:")

    def test_a_refusal_has_no_other_class(self):
        self.assertEqual(raised(read_rule, ""), (NoText, [0]))


if __name__ == "__main__":
    unittest.main()
