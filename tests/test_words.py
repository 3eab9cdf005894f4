"""Promise [2.1], and of [2.3] what counts as one word that is wrong."""

import random
import unittest

from ledgerdb.words import KEPT, NAME, NUMBER, SIGN, TEXT, WRONG, split_words

KEPT_WORDS = (
    "create table drop insert into values update set where delete from select order by desc limit begin "
    "commit rollback to savepoint int text not null unique or and is"
).split()
SIGNS = "( ) , = <> < <= > >= + - *".split()
BEGINS_NO_WORD = [chr(k) for k in range(32, 127)
                  if not chr(k).islower() and not chr(k).isdigit() and chr(k) not in " '(),=<>+-*%"]


class WordsCase(unittest.TestCase):
    def assert_words(self, text, *words):
        self.assertEqual(split_words(text), list(words))

    def assert_wrong_at(self, text, number):
        """The first word of the text that is wrong in itself is that one, counted from 1."""
        kinds = [kind for kind, value in split_words(text)]
        self.assertIn(WRONG, kinds)
        self.assertEqual(kinds.index(WRONG) + 1, number, text)


class NamesTest(WordsCase):
    def test_names(self):
        for name in ("a", "z", "abc", "a1", "a_", "a_1_b", "x0123456789", "t__", "q" * 1000):
            self.assert_words(name, (NAME, name))

    def test_every_letter_and_figure(self):
        name = "abcdefghijklmnopqrstuvwxyz_0123456789"
        self.assert_words(name, (NAME, name))
        for letter in name[:26]:
            self.assert_words(letter, (NAME, letter))

    def test_kept_words(self):
        self.assertEqual(len(KEPT_WORDS), 29)
        for word in KEPT_WORDS:
            self.assert_words(word, (KEPT, word))

    def test_names_that_begin_or_end_with_a_kept_word(self):
        for word in KEPT_WORDS:
            for name in (word + "x", word + "_", word + "0", "x" + word, word + word, word + "_" + word):
                self.assert_words(name, (NAME, name))

    def test_a_kept_word_that_lacks_a_letter_is_a_name(self):
        for word in KEPT_WORDS:
            if word[:-1] not in KEPT_WORDS:
                self.assert_words(word[:-1], (NAME, word[:-1]))

    def test_words_of_other_languages_are_names(self):
        for name in ("asc", "as", "primary", "key", "true", "false", "like", "integer", "index", "on"):
            self.assert_words(name, (NAME, name))

    def test_capitals_are_in_no_name_and_no_kept_word(self):
        self.assert_words("aB", (NAME, "a"), (WRONG, "B"))
        self.assert_wrong_at("SELECT", 1)
        self.assert_wrong_at("selecT", 2)

    def test_a_name_does_not_begin_with_an_underline(self):
        self.assert_wrong_at("_a", 1)
        self.assert_wrong_at("a _a", 2)
        self.assert_words("a_a", (NAME, "a_a"))


class NumbersTest(WordsCase):
    def test_numbers(self):
        for figures in ("0", "1", "9", "10", "255", "1234567890"):
            self.assert_words(figures, (NUMBER, int(figures)))
        self.assertIs(type(split_words("1")[0][1]), int)

    def test_figures_ahead_that_count_nothing(self):
        self.assert_words("007", (NUMBER, 7))
        self.assert_words("0" * 30, (NUMBER, 0))
        self.assert_words("0" * 29 + "5", (NUMBER, 5))

    def test_as_many_figures_as_may_be(self):
        for length in (1, 2, 29, 30):
            self.assert_words("9" * length, (NUMBER, 10 ** length - 1))

    def test_too_many_figures_are_one_wrong_word(self):
        for length in (31, 32, 60, 61, 1000):
            self.assert_words("9" * length, (WRONG, "9" * length))
            self.assert_words("0" * length, (WRONG, "0" * length))
        self.assert_words("a " + "1" * 31 + " b", (NAME, "a"), (WRONG, "1" * 31), (NAME, "b"))

    def test_a_letter_or_an_underline_right_behind(self):
        for wrong in ("1a", "1_", "0z", "12ab", "1_2", "1a2", "1select", "9" * 30 + "a", "9" * 30 + "_"):
            self.assert_words(wrong, (WRONG, wrong))
            self.assert_wrong_at("a " + wrong, 2)

    def test_a_capital_right_behind_is_a_word_of_its_own(self):
        self.assert_words("12A", (NUMBER, 12), (WRONG, "A"))
        self.assert_wrong_at("1Z", 2)
        self.assert_wrong_at("9" * 30 + "E", 2)
        self.assert_wrong_at("9" * 31 + "E", 1)

    def test_signs_and_quotes_right_behind(self):
        for sign in SIGNS:
            self.assert_words("12" + sign, (NUMBER, 12), (SIGN, sign))
            self.assert_words("9" * 30 + sign + "7", (NUMBER, 10 ** 30 - 1), (SIGN, sign), (NUMBER, 7))
        self.assert_words("12'a'", (NUMBER, 12), (TEXT, "a"))
        self.assert_words("1.5", (NUMBER, 1), (WRONG, "."), (NUMBER, 5))

    def test_a_blank_or_a_line_end_behind(self):
        self.assert_words("12 a", (NUMBER, 12), (NAME, "a"))
        self.assert_words("12\na", (NUMBER, 12), (NAME, "a"))
        self.assert_words("1" * 30 + " 1", (NUMBER, int("1" * 30)), (NUMBER, 1))

    def test_a_sign_ahead_is_no_part_of_a_number(self):
        self.assert_words("-5", (SIGN, "-"), (NUMBER, 5))
        self.assert_words("+5", (SIGN, "+"), (NUMBER, 5))


class TextsTest(WordsCase):
    def test_texts(self):
        for text in ("a", "abc", "A", " ", "  x  ", "1", "select", "(", "_", ";", "a b c", "~!\"#$&./:;?@[\\]^`{|}"):
            self.assert_words("'" + text + "'", (TEXT, text))

    def test_an_empty_text(self):
        self.assert_words("''", (TEXT, ""))
        self.assert_words("'' ''", (TEXT, ""), (TEXT, ""))

    def test_quotes_within(self):
        self.assert_words("''''", (TEXT, "'"))
        self.assert_words("'a''b'", (TEXT, "a'b"))
        self.assert_words("'''a'", (TEXT, "'a"))
        self.assert_words("'a'''", (TEXT, "a'"))
        self.assert_words("''''''", (TEXT, "''"))
        self.assert_words("'a''''b'", (TEXT, "a''b"))
        self.assert_words("''' '''", (TEXT, "' '"))

    def test_texts_beside_one_another(self):
        self.assert_words("'a' 'b'", (TEXT, "a"), (TEXT, "b"))
        self.assert_words("'a'\n'b'", (TEXT, "a"), (TEXT, "b"))
        self.assert_words("'a','b'", (TEXT, "a"), (SIGN, ","), (TEXT, "b"))

    def test_line_ends_and_blanks_within(self):
        self.assert_words("'\n'", (TEXT, "\n"))
        self.assert_words("' a\n\n b '", (TEXT, " a\n\n b "))

    def test_long_texts_are_words(self):
        self.assert_words("'" + "x" * 998 + "'", (TEXT, "x" * 998))

    def test_words_within_are_not_seen(self):
        self.assert_words("'select * from t'", (TEXT, "select * from t"))

    def test_words_right_beside(self):
        self.assert_words("a'b'c", (NAME, "a"), (TEXT, "b"), (NAME, "c"))
        self.assert_words("'b'7", (TEXT, "b"), (NUMBER, 7))
        self.assert_words("is'b'is", (KEPT, "is"), (TEXT, "b"), (KEPT, "is"))

    def test_a_text_without_its_end_is_one_wrong_word(self):
        for wrong in ("'", "'a", "'a b", "'a\nb c (", "' select 1", "'" + "x" * 999):
            self.assert_words(wrong, (WRONG, wrong))
            self.assert_words("a " + wrong, (NAME, "a"), (WRONG, wrong))

    def test_a_quote_within_is_no_end(self):
        for wrong in ("'''", "'a''", "'a'' b", "'''''", "'a''b", "'''a"):
            self.assert_words(wrong, (WRONG, wrong))
        self.assert_words("'a' '", (TEXT, "a"), (WRONG, "'"))


class SignsTest(WordsCase):
    def test_each_sign(self):
        for sign in SIGNS:
            self.assert_words(sign, (SIGN, sign))

    def test_the_longer_of_two(self):
        self.assert_words("<>", (SIGN, "<>"))
        self.assert_words("<=", (SIGN, "<="))
        self.assert_words(">=", (SIGN, ">="))
        self.assert_words("<=>", (SIGN, "<="), (SIGN, ">"))
        self.assert_words("<>=", (SIGN, "<>"), (SIGN, "="))
        self.assert_words("<<>", (SIGN, "<"), (SIGN, "<>"))
        self.assert_words(">>=", (SIGN, ">"), (SIGN, ">="))
        self.assert_words(">==", (SIGN, ">="), (SIGN, "="))

    def test_two_signs_that_make_no_longer_one(self):
        for one in SIGNS:
            for other in SIGNS:
                if one + other not in SIGNS and len(one) + len(other) == 2:
                    self.assert_words(one + other, (SIGN, one), (SIGN, other))

    def test_a_blank_between_keeps_them_apart(self):
        for gap in (" ", "\n"):
            self.assert_words("<" + gap + ">", (SIGN, "<"), (SIGN, ">"))
            self.assert_words("<" + gap + "=", (SIGN, "<"), (SIGN, "="))
            self.assert_words(">" + gap + "=", (SIGN, ">"), (SIGN, "="))

    def test_signs_that_begin_no_word(self):
        self.assertIn(";", BEGINS_NO_WORD)
        self.assertIn("A", BEGINS_NO_WORD)
        self.assertIn("_", BEGINS_NO_WORD)
        for sign in BEGINS_NO_WORD:
            self.assert_words(sign, (WRONG, sign))
            self.assert_wrong_at("a, " + sign, 3)
            self.assert_wrong_at(sign + " a", 1)
        for sign in BEGINS_NO_WORD:
            if sign != "_":
                self.assert_wrong_at("a" + sign, 2)
                self.assert_wrong_at("1" + sign, 2)
            self.assert_wrong_at("'a'" + sign, 2)
            self.assert_wrong_at("<" + sign, 2)


class BetweenWordsTest(WordsCase):
    def test_no_words(self):
        for text in ("", " ", "\n", "   ", "\n\n", " \n \n "):
            self.assert_words(text)

    def test_blanks_and_line_ends_ahead_behind_and_between(self):
        words = [(KEPT, "select"), (SIGN, "*"), (KEPT, "from"), (NAME, "t")]
        for gap in (" ", "\n", "  ", "\n\n", " \n", "\n "):
            self.assert_words(gap.join(["", "select", "*", "from", "t", ""]), *words)
            self.assert_words(gap.join(["select", "*", "from", "t"]), *words)

    def test_words_with_nothing_between(self):
        self.assert_words("select*from t", (KEPT, "select"), (SIGN, "*"), (KEPT, "from"), (NAME, "t"))
        self.assert_words("a<=b", (NAME, "a"), (SIGN, "<="), (NAME, "b"))
        self.assert_words("values(1,'x',-2)", (KEPT, "values"), (SIGN, "("), (NUMBER, 1), (SIGN, ","),
                          (TEXT, "x"), (SIGN, ","), (SIGN, "-"), (NUMBER, 2), (SIGN, ")"))
        self.assert_words("selectfrom", (NAME, "selectfrom"))

    def test_a_whole_statement(self):
        self.assert_words(
            "update t1 set c_2 = c_2*2\n where not (n is null) and n<>'it''s'",
            (KEPT, "update"), (NAME, "t1"), (KEPT, "set"), (NAME, "c_2"), (SIGN, "="), (NAME, "c_2"),
            (SIGN, "*"), (NUMBER, 2), (KEPT, "where"), (KEPT, "not"), (SIGN, "("), (NAME, "n"), (KEPT, "is"),
            (KEPT, "null"), (SIGN, ")"), (KEPT, "and"), (NAME, "n"), (SIGN, "<>"), (TEXT, "it's"))

    def test_the_list_told_is_a_new_one(self):
        first = split_words("a b")
        first.append("more")
        self.assert_words("a b", (NAME, "a"), (NAME, "b"))

    def test_words_set_apart_come_back(self):
        chance = random.Random(1)
        words = [(SIGN, sign) for sign in SIGNS] + [(KEPT, word) for word in KEPT_WORDS]
        words += [(NAME, "a"), (NAME, "x_1"), (NUMBER, 0), (NUMBER, 10 ** 30 - 1), (TEXT, ""), (TEXT, "' '\n")]
        for round_number in range(300):
            chosen = [chance.choice(words) for k in range(chance.randint(0, 20))]
            text = chance.choice(("", " ", "\n"))
            for kind, value in chosen:
                written = "'" + value.replace("'", "''") + "'" if kind == TEXT else str(value)
                text += written + chance.choice((" ", "\n", " \n "))
            self.assert_words(text, *chosen)


if __name__ == "__main__":
    unittest.main()
