"""Promise [2.3]: the number of the wrong word."""

import itertools
import random
import unittest

from ledgerdb.errors import WrongWord
from ledgerdb.reading import read_statement
from ledgerdb.words import NAME, NUMBER, TEXT, WRONG, split_words

# One rule a line: what it makes, and the ways to make it; N, 1 and 'x' are any name, number and text.
RULES = """
COLUMNS: COLUMN | COLUMNS , COLUMN
COLUMN: N KIND | N KIND not null | N KIND unique | N KIND not null unique
KIND: int | text
LIST: OR | LIST , OR
CHANGES: N = OR | CHANGES , N = OR
OR: AND | OR or AND
AND: NOT | AND and NOT
NOT: COMPARISON | not NOT
COMPARISON: SUM | SUM SIGN SUM | SUM is null | SUM is not null
SIGN: = | <> | < | <= | > | >=
SUM: PRODUCT | SUM + PRODUCT | SUM - PRODUCT
PRODUCT: MINUS | PRODUCT * MINUS
MINUS: LAST | - MINUS
LAST: N | 1 | 'x' | null | ( OR )
"""
STATEMENTS = [
    "create table N ( COLUMNS )", "drop table N", "insert into N values ( LIST )", "begin", "commit", "rollback",
    "rollback to N", "savepoint N", "update N set CHANGES", "update N set CHANGES where OR", "delete from N",
    "delete from N where OR",
] + [" ".join(parts) for parts in itertools.product(
    ("select *", "select LIST"), ("from N",), ("", "where OR"), ("", "order by N", "order by N desc"),
    ("", "limit 1"))]
WORDS = (
    "create table drop insert into values update set where delete from select order by desc limit begin commit "
    "rollback to savepoint int text not null unique or and is ( ) , = <> < <= > >= + - * a t 1 7 'x' ''"
).split()
WRONG_WORDS = (";", "A", "_", "_a", ".", '"', "9" * 31, "1a", "1_", "9" * 30 + "z")


def make_grammar():
    grammar = {"STATEMENT": [tuple(way.split()) for way in STATEMENTS]}
    for line in RULES.strip().split("\n"):
        made, ways = line.split(": ")
        grammar[made] = [tuple(way.split()) for way in ways.split(" | ")]
    return grammar


GRAMMAR = make_grammar()


def fits(part, word):
    kind, value = word
    return part == {NAME: "N", NUMBER: "1", TEXT: "'x'", WRONG: ""}.get(kind, value)


def complete(items, chart):
    """Adds to a set of items (made, way, done, begin) what follows from them; no way is empty."""
    ahead = list(items)
    while ahead:
        made, way, done, begin = ahead.pop()
        if done == len(way):
            more = [(m, w, d + 1, b) for m, w, d, b in chart[begin] if d < len(w) and w[d] == made]
        elif way[done] in GRAMMAR:
            more = [(way[done], other, 0, len(chart) - 1) for other in GRAMMAR[way[done]]]
        else:
            more = []
        for item in more:
            if item not in items:
                items.add(item)
                ahead.append(item)


def find_wrong_word(text):
    """The wrong word by the grammar alone, 0 of a statement: all ways to read the words are gone along at once."""
    chart = [{("STATEMENT", way, 0, 0) for way in GRAMMAR["STATEMENT"]}]
    complete(chart[0], chart)
    words = split_words(text)
    for number, word in enumerate(words, 1):
        items = {(made, way, done + 1, begin) for made, way, done, begin in chart[-1]
                 if done < len(way) and way[done] not in GRAMMAR and fits(way[done], word)}
        if not items:
            return number
        chart.append(items)
        complete(items, chart)
    whole = any(made == "STATEMENT" and done == len(way) for made, way, done, begin in chart[-1])
    return 0 if whole else len(words) + 1


def read_wrong_word(text):
    try:
        read_statement(text)
    except WrongWord as wrong:
        return wrong.place
    return 0


def make_words(chance, part, depth):
    if part not in GRAMMAR:
        choices = {"N": "a t b_1", "1": "1 7 0", "'x'": "'x' '' '('"}
        return [chance.choice(choices[part].split()) if part in choices else part]
    ways = GRAMMAR[part]
    # Deep down only the first way is gone, which leads out; a bracket is the last way of its rule.
    way = ways[0] if depth > 14 else chance.choice(ways)
    return [word for inner in way for word in make_words(chance, inner, depth + 1)]


class WrongWordCase(unittest.TestCase):
    def assert_wrong(self, text, place):
        self.assertEqual(read_wrong_word(text), place, text)


class PlacesTest(WrongWordCase):
    def test_no_words(self):
        for text in ("", " ", "\n", "   ", " \n \n", "\n\n"):
            self.assert_wrong(text, 1)

    def test_at_the_first_word(self):
        for text in ("a", "1", "'x'", "(", "*", "table t", "from t", "null", "t select", ", begin", "values (1)"):
            self.assert_wrong(text, 1)

    def test_in_the_middle(self):
        self.assert_wrong("select a from t where a == 1", 8)
        self.assert_wrong("create table t (a int, b float, c int)", 9)
        self.assert_wrong("insert into t values (1, 2 3, 4)", 9)
        self.assert_wrong("update t set a = 1, 2 = b", 8)

    def test_the_end_alone(self):
        for text in (
                "create", "create table", "create table t", "create table t (", "create table t ( a",
                "create table t ( a int", "create table t ( a int not", "create table t ( a int not null",
                "create table t ( a int unique", "create table t ( a int ,", "drop", "drop table", "insert",
                "insert into", "insert into t", "insert into t values", "insert into t values (",
                "insert into t values ( 1", "insert into t values ( 1 ,", "update", "update t", "update t set",
                "update t set a", "update t set a =", "update t set a = 1 ,", "update t set a = 1 where", "delete",
                "delete from", "delete from t where", "select", "select *", "select * from", "select a",
                "select a ,", "select a or", "select a and", "select not", "select a =", "select a is",
                "select a is not", "select a +", "select a *", "select -", "select (", "select ( a",
                "select * from t where", "select * from t order", "select * from t order by",
                "select * from t limit", "rollback to", "savepoint"):
            self.assert_wrong(text, len(text.split()) + 1)
            self.assert_wrong("\n " + text + " \n", len(text.split()) + 1)

    def test_words_behind_a_whole_statement(self):
        for text in (
                "create table t ( a int )", "drop table t", "insert into t values ( 1 )", "update t set a = 1",
                "delete from t", "select * from t", "select a from t limit 1", "begin", "commit", "rollback",
                "rollback to s", "savepoint s", "select * from t order by a desc", "delete from t where a is null"):
            self.assert_wrong(text, 0)
            for behind in ("a", "1", "'x'", ")", "(", "begin", "select * from t", "; begin", "'x"):
                self.assert_wrong(text + " " + behind, len(text.split()) + 1)

    def test_kept_words_are_no_names(self):
        for kept in WORDS[:29]:
            self.assert_wrong(f"create table {kept} (a int)", 3)
            self.assert_wrong(f"create table t ({kept} int)", 5)
            self.assert_wrong(f"drop table {kept}", 3)
            self.assert_wrong(f"update t set {kept} = 1", 4)
            self.assert_wrong(f"select * from {kept}", 4)
            self.assert_wrong(f"select * from t order by {kept}", 7)
            self.assert_wrong(f"savepoint {kept}", 2)
            self.assert_wrong(f"rollback to {kept}", 3)

    def test_the_names_of_kinds_are_no_kept_words_but_int_and_text(self):
        for kind in ("integer", "string", "float", "a", "1", "'int'"):
            self.assert_wrong(f"create table t (a {kind})", 6)


class WrongInThemselvesTest(WrongWordCase):
    def test_signs_that_begin_no_word(self):
        for sign in "!\"#$&./:;?@ABZ[\\]^_`{|}~":
            self.assert_wrong(sign, 1)
            self.assert_wrong(f"begin {sign}", 2)
            self.assert_wrong(f"begin{sign}", 2 if sign != "_" else 1)
            self.assert_wrong(f"select a {sign} b from t", 3)
            self.assert_wrong(f"select {sign}a from t", 2)

    def test_a_text_without_its_end(self):
        self.assert_wrong("'", 1)
        self.assert_wrong("'begin", 1)
        self.assert_wrong("begin '", 2)
        self.assert_wrong("select 'a from t", 2)
        self.assert_wrong("select 'a'' from t", 2)
        self.assert_wrong("select a from t where b = 'x", 8)
        self.assert_wrong("insert into t values ('a', 'b)", 8)

    def test_numbers(self):
        for wrong in ("9" * 31, "0" * 31, "1a", "1_", "1_000", "0x1", "9" * 30 + "a", "9" * 500):
            self.assert_wrong(f"select {wrong} from t", 2)
            self.assert_wrong(f"select a + {wrong}, from t", 4)
            self.assert_wrong(f"select * from t limit {wrong}", 6)
            self.assert_wrong(wrong, 1)
            self.assert_wrong(f"begin {wrong}", 2)
        self.assert_wrong("select " + "9" * 30 + " from t", 0)

    def test_ahead_of_the_place_where_the_statement_goes_wrong_anyway(self):
        for wrong in WRONG_WORDS + ("'x from from",):
            self.assert_wrong(f"select {wrong} from from", 2)
            self.assert_wrong(f"select a, {wrong}", 4)

    def test_at_that_place(self):
        for wrong in WRONG_WORDS + ("'x",):
            self.assert_wrong(f"select a from t where {wrong}", 6)
            self.assert_wrong(f"select a from {wrong}", 4)
            self.assert_wrong(f"drop {wrong}", 2)

    def test_behind_that_place(self):
        for wrong in WRONG_WORDS + ("'x",):
            self.assert_wrong(f"select from t {wrong}", 2)
            self.assert_wrong(f"create t {wrong}", 2)
            self.assert_wrong(f"select a = b = c {wrong}", 5)
            self.assert_wrong(f"t {wrong}", 1)
            self.assert_wrong(f"begin begin {wrong}", 2)

    def test_two_of_them(self):
        self.assert_wrong("select ; 'x", 2)
        self.assert_wrong("select a; 'x", 3)
        self.assert_wrong("A B", 1)


class GrammarTest(WrongWordCase):
    """Against a recognizer that goes along all ways of the grammar at once."""

    def assert_alike(self, words):
        text = " ".join(words)
        self.assertEqual(read_wrong_word(text), find_wrong_word(text), text)

    def make_statements(self, seed, many):
        chance = random.Random(seed)
        found = []
        while len(found) < many:
            words = make_words(chance, "STATEMENT", 0)
            if len(words) <= 30:
                found.append(words)
        return found

    def test_the_recognizer_itself(self):
        self.assertEqual(find_wrong_word("select a from t"), 0)
        self.assertEqual(find_wrong_word("select not a is not null or (b) = -1 from t"), 0)
        self.assertEqual(find_wrong_word("create table t (a int not null unique, b text)"), 0)
        self.assertEqual(find_wrong_word("update t set a = b = 1, b = 'x' where not not a"), 0)
        self.assertEqual(find_wrong_word("insert into t values (1, 2)"), 0)
        self.assertEqual(find_wrong_word("select a = b = c from t"), 5)
        self.assertEqual(find_wrong_word("select a from"), 4)
        self.assertEqual(find_wrong_word(""), 1)

    def test_each_word_at_each_place_of_each_kind_of_statement(self):
        for text in (
                "create table t ( a int not null unique , b text )", "drop table t",
                "insert into t values ( 1 , - a )", "update t set a = 1 , b = 2 where a < b",
                "delete from t where a", "select * from t", "select a , b + 1 from t where a is not null",
                "select not ( a or 'x' ) and b from t order by a desc limit 1",
                "begin", "commit", "rollback", "rollback to s", "savepoint s"):
            words = text.split()
            self.assert_alike(words)
            for place in range(len(words) + 1):
                self.assert_alike(words[:place])
                for word in WORDS + [";"]:
                    self.assert_alike(words[:place] + [word])
                    self.assert_alike(words[:place] + [word] + words[place + 1:])

    def test_statements_by_chance(self):
        for words in self.make_statements(1, 300):
            self.assertEqual(read_wrong_word(" ".join(words)), 0, words)
            self.assertEqual(find_wrong_word(" ".join(words)), 0, words)

    def test_statements_by_chance_with_a_fault(self):
        chance = random.Random(2)
        for words in self.make_statements(3, 700):
            place = chance.randrange(len(words))
            word = chance.choice(WORDS + list(WRONG_WORDS))
            self.assert_alike(chance.choice((
                words[:place] + [word] + words[place + 1:], words[:place] + [word] + words[place:],
                words[:place] + words[place + 1:], words[:place],
                words[:place] + words[place:place + 2][::-1] + words[place + 2:])))


if __name__ == "__main__":
    unittest.main()
