"""Promise [2.2]: the statements and the expressions, and the places of their names."""

import sys
import unittest

from ledgerdb.errors import WrongWord
from ledgerdb.reading import (
    BEGIN, COLUMN, COMMIT, CREATE, DELETE, DROP, INSERT, ONE, ROLLBACK, ROLLBACK_TO, SAVEPOINT, SELECT, TWO, UPDATE,
    VALUE, read_statement)

COMPARISONS = "= <> < <= > >=".split()


def show(expression):
    """The expression with brackets round all that has an operator."""
    pending = []
    for kind, value, place in expression:
        if kind == VALUE:
            pending.append("null" if value is None else repr(value))
        elif kind == COLUMN:
            pending.append(value)
        elif kind == ONE:
            operand = pending.pop()
            shapes = {"not": f"(not {operand})", "minus": f"(-{operand})", "is null": f"({operand} is null)",
                      "is not null": f"({operand} is not null)"}
            pending.append(shapes[value])
        else:
            right = pending.pop()
            pending.append(f"({pending.pop()} {value} {right})")
    assert len(pending) == 1
    return pending[0]


def read_results(text):
    return read_statement(f"select {text} from t").expressions


def show_read(text):
    return show(read_results(text)[0])


def show_all(expressions):
    return [show(expression) for expression in expressions]


def names_of(expression):
    return [(value, place) for kind, value, place in expression if kind == COLUMN]


class ReadingCase(unittest.TestCase):
    def assert_wrong(self, text, place):
        with self.assertRaises(WrongWord, msg=text) as caught:
            read_statement(text)
        self.assertEqual(caught.exception.place, place, text)


class CreateAndDropTest(ReadingCase):
    def columns_of(self, text):
        return read_statement(f"create table t ({text})").columns

    def test_create(self):
        statement = read_statement("create table t1 (a int)")
        self.assertEqual((statement.kind, statement.target), (CREATE, ("t1", 3)))
        self.assertEqual(statement.columns, [("a", 5, "int", False, False)])

    def test_each_form_of_a_column(self):
        for kind in ("int", "text"):
            for behind, not_null, unique in (("", False, False), (" not null", True, False),
                                             (" unique", False, True), (" not null unique", True, True)):
                self.assertEqual(self.columns_of(f"a {kind}{behind}"), [("a", 5, kind, not_null, unique)])

    def test_more_columns(self):
        self.assertEqual(
            self.columns_of("a int not null unique, b text unique, c int not null,\nd text"),
            [("a", 5, "int", True, True), ("b", 11, "text", False, True), ("c", 15, "int", True, False),
             ("d", 20, "text", False, False)])

    def test_more_columns_than_there_is_room_for_are_read(self):
        text = ", ".join(f"c{k} int" for k in range(40))
        self.assertEqual([column[0] for column in self.columns_of(text)], [f"c{k}" for k in range(40)])

    def test_a_column_named_twice_is_read(self):
        self.assertEqual([column[:2] for column in self.columns_of("a int, a text")], [("a", 5), ("a", 8)])

    def test_not_null_and_unique_in_this_order_alone(self):
        self.assert_wrong("create table t (a int unique not null)", 8)
        self.assert_wrong("create table t (a int not null not null)", 9)
        self.assert_wrong("create table t (a int unique unique)", 8)
        self.assert_wrong("create table t (a not null int)", 6)
        self.assert_wrong("create table t (a int null)", 7)
        self.assert_wrong("create table t (a int not unique)", 8)

    def test_no_columns(self):
        self.assert_wrong("create table t ()", 5)
        self.assert_wrong("create table t", 4)
        self.assert_wrong("create table t (a int,)", 8)

    def test_drop(self):
        statement = read_statement("drop table abc")
        self.assertEqual((statement.kind, statement.target), (DROP, ("abc", 3)))
        self.assert_wrong("drop table a, b", 4)


class InsertTest(ReadingCase):
    def test_one_value(self):
        statement = read_statement("insert into t values (1)")
        self.assertEqual((statement.kind, statement.target), (INSERT, ("t", 3)))
        self.assertEqual(show_all(statement.expressions), ["1"])

    def test_more_values(self):
        statement = read_statement("insert into t values (1+2, 'x', null, -(3), a, b is null)")
        self.assertEqual(show_all(statement.expressions), ["(1 + 2)", "'x'", "null", "(-3)", "a", "(b is null)"])
        self.assertEqual(names_of(statement.expressions[4]), [("a", 19)])
        self.assertEqual(names_of(statement.expressions[5]), [("b", 21)])

    def test_more_values_than_there_is_room_for_are_read(self):
        statement = read_statement("insert into t values (" + ",".join("0" * 100) + ")")
        self.assertEqual(len(statement.expressions), 100)

    def test_wrong_ones(self):
        self.assert_wrong("insert into t values ()", 6)
        self.assert_wrong("insert into t values 1", 5)
        self.assert_wrong("insert into t values (1), (2)", 8)
        self.assert_wrong("insert into t (a) values (1)", 4)
        self.assert_wrong("insert into t values (*)", 6)


class UpdateAndDeleteTest(ReadingCase):
    def test_one_change(self):
        statement = read_statement("update t set a = 1")
        self.assertEqual((statement.kind, statement.target, statement.where), (UPDATE, ("t", 2), None))
        self.assertEqual([change[:2] for change in statement.changes], [("a", 4)])
        self.assertEqual(show(statement.changes[0][2]), "1")

    def test_more_changes_and_a_where(self):
        statement = read_statement("update t set a = b + 1, b = a = 2, a = 'x' where c or a")
        self.assertEqual([change[:2] for change in statement.changes], [("a", 4), ("b", 10), ("a", 16)])
        self.assertEqual(show_all([change[2] for change in statement.changes]), ["(b + 1)", "(a = 2)", "'x'"])
        self.assertEqual(names_of(statement.changes[1][2]), [("a", 12)])
        self.assertEqual(show(statement.where), "(c or a)")
        self.assertEqual(names_of(statement.where), [("c", 20), ("a", 22)])

    def test_wrong_updates(self):
        self.assert_wrong("update t set", 4)
        self.assert_wrong("update t set a = 1,", 8)
        self.assert_wrong("update t set a = 1 b = 2", 7)
        self.assert_wrong("update t set a <> 1", 5)
        self.assert_wrong("update t set (a) = 1", 4)
        self.assert_wrong("update t set a = b = c = 1", 9)
        self.assert_wrong("update t where a", 3)

    def test_delete(self):
        statement = read_statement("delete from t")
        self.assertEqual((statement.kind, statement.target, statement.where), (DELETE, ("t", 3), None))
        statement = read_statement("delete from t where not a")
        self.assertEqual(statement.target, ("t", 3))
        self.assertEqual((show(statement.where), names_of(statement.where)), ("(not a)", [("a", 6)]))
        self.assert_wrong("delete t", 2)
        self.assert_wrong("delete * from t", 2)
        self.assert_wrong("delete from t order by a", 4)


class SelectTest(ReadingCase):
    def test_all_columns(self):
        statement = read_statement("select * from t")
        self.assertEqual((statement.kind, statement.target, statement.expressions), (SELECT, ("t", 4), None))
        self.assertEqual((statement.where, statement.order, statement.desc, statement.limit),
                         (None, None, False, None))

    def test_expressions(self):
        statement = read_statement("select a, a + b, 'x' , null from t")
        self.assertEqual(statement.target, ("t", 12))
        self.assertEqual(show_all(statement.expressions), ["a", "(a + b)", "'x'", "null"])
        self.assertEqual(names_of(statement.expressions[1]), [("a", 4), ("b", 6)])

    def test_each_part_that_may_lack(self):
        for what, shown in (("*", None), ("a", ["a"])):
            for where in ("", " where a > 1"):
                for order, desc in (("", False), (" order by b", False), (" order by b desc", True)):
                    for limit in ("", " limit 7"):
                        text = f"select {what} from t{where}{order}{limit}"
                        statement = read_statement(text)
                        self.assertEqual(statement.target, ("t", 4))
                        self.assertEqual(statement.expressions and show_all(statement.expressions), shown)
                        self.assertEqual(statement.where and show(statement.where), "(a > 1)" if where else None)
                        self.assertEqual(statement.order, ("b", 11 if where else 7) if order else None)
                        self.assertIs(statement.desc, desc)
                        self.assertEqual(statement.limit, 7 if limit else None)

    def test_limits(self):
        for figures in ("0", "1", "007", "9" * 30):
            self.assertEqual(read_statement(f"select * from t limit {figures}").limit, int(figures))
        for wrong in ("-1", "a", "'1'", "null", "(1)", "", "9" * 31):
            self.assert_wrong(f"select * from t limit {wrong}", 6)
        self.assert_wrong("select * from t limit 1 + 1", 7)
        self.assert_wrong("select * from t limit 1, 2", 7)

    def test_order_by_one_name_alone(self):
        self.assert_wrong("select * from t order by a, b", 8)
        self.assert_wrong("select * from t order by 1", 7)
        self.assert_wrong("select * from t order by a + 1", 8)
        self.assert_wrong("select * from t order by -a", 7)
        self.assert_wrong("select * from t order by a asc", 8)
        self.assert_wrong("select * from t order by a desc desc", 9)
        self.assert_wrong("select * from t order by desc", 7)
        self.assert_wrong("select * from t order a", 6)
        self.assert_wrong("select * from t desc", 5)

    def test_the_parts_have_one_order(self):
        self.assert_wrong("select * from t limit 1 where a", 7)
        self.assert_wrong("select * from t limit 1 order by a", 7)
        self.assert_wrong("select * from t order by a where a", 8)
        self.assert_wrong("select * where a from t", 3)
        self.assert_wrong("select * from t where a where b", 7)
        self.assert_wrong("select * from t limit 1 limit 1", 7)

    def test_wrong_results(self):
        self.assert_wrong("select from t", 2)
        self.assert_wrong("select *, a from t", 3)
        self.assert_wrong("select a, * from t", 4)
        self.assert_wrong("select a, from t", 4)
        self.assert_wrong("select a b from t", 3)
        self.assert_wrong("select (a, b) from t", 4)
        self.assert_wrong("select * from t, s", 5)
        self.assert_wrong("select 1", 3)


class TransactionsTest(ReadingCase):
    def test_words_alone(self):
        for text, kind in (("begin", BEGIN), ("commit", COMMIT), ("rollback", ROLLBACK)):
            statement = read_statement(text)
            self.assertEqual((statement.kind, statement.target), (kind, None))
            self.assert_wrong(text + " s", 2)
            self.assert_wrong(text + " " + text, 2)

    def test_marks(self):
        statement = read_statement("savepoint s1")
        self.assertEqual((statement.kind, statement.target), (SAVEPOINT, ("s1", 2)))
        statement = read_statement("rollback to s1")
        self.assertEqual((statement.kind, statement.target), (ROLLBACK_TO, ("s1", 3)))
        self.assert_wrong("rollback to savepoint s", 3)
        self.assert_wrong("rollback to", 3)
        self.assert_wrong("savepoint", 2)
        self.assert_wrong("savepoint 1", 2)
        self.assert_wrong("begin to s", 2)


class ExpressionsTest(ReadingCase):
    def assert_read(self, text, shown):
        self.assertEqual(show_read(text), shown, text)

    def assert_wrong_result(self, text, place):
        """The place counts from the expression's first word on."""
        self.assert_wrong(f"select {text} from t", place + 1)

    def test_what_stands_last(self):
        self.assert_read("a_1", "a_1")
        self.assert_read("12", "12")
        self.assert_read("9" * 30, "9" * 30)
        self.assert_read("'it''s'", repr("it's"))
        self.assert_read("''", "''")
        self.assert_read("null", "null")
        self.assert_read("(a)", "a")
        self.assert_read("((((1))))", "1")
        for wrong in ("*", "+", "=", ")", "int", "is", "or", "select", "<>", ","):
            self.assert_wrong_result(f"a, {wrong}", 3)
            self.assert_wrong_result(f"({wrong} a)", 2)
            self.assert_wrong_result(f"a + {wrong}", 3)

    def test_or_binds_looser_than_and(self):
        self.assert_read("a or b and c", "(a or (b and c))")
        self.assert_read("a and b or c", "((a and b) or c)")
        self.assert_read("a and b or c and d", "((a and b) or (c and d))")
        self.assert_read("(a or b) and c", "((a or b) and c)")

    def test_and_binds_looser_than_not(self):
        self.assert_read("not a and b", "((not a) and b)")
        self.assert_read("a and not b", "(a and (not b))")
        self.assert_read("not a or not b", "((not a) or (not b))")
        self.assert_read("not (a and b)", "(not (a and b))")

    def test_not_binds_looser_than_comparisons(self):
        for sign in COMPARISONS:
            self.assert_read(f"not a {sign} b", f"(not (a {sign} b))")
            self.assert_read(f"(not a) {sign} b", f"((not a) {sign} b)")
        self.assert_read("not a is null", "(not (a is null))")
        self.assert_read("not a is not null", "(not (a is not null))")

    def test_comparisons_bind_looser_than_sums(self):
        for sign in COMPARISONS:
            self.assert_read(f"a + b {sign} c - d", f"((a + b) {sign} (c - d))")
            self.assert_read(f"a + (b {sign} c)", f"(a + (b {sign} c))")
        self.assert_read("a + b is null", "((a + b) is null)")
        self.assert_read("a - b is not null", "((a - b) is not null)")

    def test_sums_bind_looser_than_products(self):
        for sign in "+-":
            self.assert_read(f"a {sign} b * c", f"(a {sign} (b * c))")
            self.assert_read(f"a * b {sign} c", f"((a * b) {sign} c)")
            self.assert_read(f"(a {sign} b) * c", f"((a {sign} b) * c)")

    def test_products_bind_looser_than_a_minus_ahead(self):
        self.assert_read("-a * b", "((-a) * b)")
        self.assert_read("a * -b", "(a * (-b))")
        self.assert_read("-(a * b)", "(-(a * b))")
        self.assert_read("-a + b", "((-a) + b)")
        self.assert_read("-a is null", "((-a) is null)")
        self.assert_read("-a = -b", "((-a) = (-b))")

    def test_all_levels_at_once(self):
        self.assert_read("a or b and not c = d + e * -f", "(a or (b and (not (c = (d + (e * (-f)))))))")
        self.assert_read("-a * b + c = d and e or f", "((((((-a) * b) + c) = d) and e) or f)")

    def test_operators_of_one_kind_go_from_the_left(self):
        self.assert_read("a or b or c", "((a or b) or c)")
        self.assert_read("a and b and c", "((a and b) and c)")
        self.assert_read("a * b * c", "((a * b) * c)")
        self.assert_read("a + b + c", "((a + b) + c)")
        self.assert_read("a - b - c", "((a - b) - c)")
        self.assert_read("a - b + c - d", "(((a - b) + c) - d)")
        self.assert_read("a + b - c", "((a + b) - c)")
        self.assert_read("a - (b - c)", "(a - (b - c))")

    def test_comparisons_are_not_chained(self):
        tests = [f"{sign} b" for sign in COMPARISONS] + ["is null", "is not null"]
        for one in tests:
            for other in tests:
                self.assert_wrong_result(f"a {one} {other}", 2 + len(one.split()))
                self.assert_wrong_result(f"not a {one} {other}", 3 + len(one.split()))
                self.assert_read(f"(a {one}) {other}", f"((a {one}) {other})")
                self.assert_read(f"a {one} and c {other}", f"((a {one}) and (c {other}))")

    def test_nothing_tighter_stands_behind_is_null(self):
        for behind in ("+ 1", "- 1", "* 2"):
            self.assert_wrong_result(f"a is null {behind}", 4)
            self.assert_wrong_result(f"a is not null {behind}", 5)
        self.assert_read("a is null or b", "((a is null) or b)")

    def test_is_null_and_is_not_null(self):
        self.assert_read("a is null", "(a is null)")
        self.assert_read("a is not null", "(a is not null)")
        self.assert_read("null is null", "(null is null)")
        self.assert_wrong_result("a is 1", 3)
        self.assert_wrong_result("a is not 1", 4)
        self.assert_wrong_result("a is not not null", 4)
        self.assert_wrong_result("a is (null)", 3)
        self.assert_wrong_result("is null", 1)
        self.assert_wrong_result("a not null", 2)
        self.assert_wrong_result("a null", 2)

    def test_not_ahead_of_its_operand(self):
        self.assert_read("not a", "(not a)")
        self.assert_read("not not a", "(not (not a))")
        self.assert_read("not not not a = b", "(not (not (not (a = b))))")
        self.assert_read("not null", "(not null)")
        self.assert_read("not -a", "(not (-a))")
        self.assert_read("not (not a)", "(not (not a))")
        self.assert_read("not a + b * c", "(not (a + (b * c)))")

    def test_where_no_not_can_stand(self):
        for sign in COMPARISONS + ["+", "-", "*"]:
            self.assert_wrong_result(f"a {sign} not b", 3)
        self.assert_wrong_result("- not a", 2)
        self.assert_wrong_result("a not b", 2)
        self.assert_wrong_result("not", 2)
        self.assert_wrong_result("not or a", 2)
        self.assert_wrong_result("not * a", 2)

    def test_a_minus_ahead_of_its_operand(self):
        self.assert_read("-1", "(-1)")
        self.assert_read("- -1", "(-(-1))")
        self.assert_read("---a", "(-(-(-a)))")
        self.assert_read("a - -b", "(a - (-b))")
        self.assert_read("a--b", "(a - (-b))")
        self.assert_read("a---b", "(a - (-(-b)))")
        self.assert_read("-'x'", "(-'x')")
        self.assert_read("-null", "(-null)")
        self.assert_read("-(-a)", "(-(-a))")
        self.assert_wrong_result("+1", 1)
        self.assert_wrong_result("-+1", 2)
        self.assert_wrong_result("-", 2)

    def test_brackets(self):
        self.assert_read("(a or b) * (c is null)", "((a or b) * (c is null))")
        self.assert_read("((a) + ((b)))", "(a + b)")
        self.assert_wrong_result("()", 2)
        self.assert_wrong_result("(a", 3)
        self.assert_wrong_result("a)", 2)
        self.assert_wrong_result("(a))", 4)
        self.assert_wrong_result("(a b)", 3)
        self.assert_wrong_result("a (b)", 2)

    def test_a_text_is_not_taken_for_what_it_holds(self):
        for held in ("(", "-", "not", "*", "null", "a", "1", "+"):
            self.assert_read(f"'{held}'", f"'{held}'")
        self.assert_wrong_result("a '+' b", 2)
        self.assert_wrong_result("a 'is' null", 2)
        self.assert_wrong_result("(a ')'", 3)
        self.assert_wrong("'begin'", 1)
        self.assert_wrong("select '*' 'from' t", 3)

    def test_steps(self):
        self.assertEqual(
            read_results("not -a + 'x' is null or 7")[0],
            [(COLUMN, "a", 4), (ONE, "minus", 0), (VALUE, "x", 0), (TWO, "+", 0), (ONE, "is null", 0), (ONE, "not", 0),
             (VALUE, 7, 0), (TWO, "or", 0)])
        self.assertEqual(
            read_results("(null and a * b >= 1) - c")[0],
            [(VALUE, None, 0), (COLUMN, "a", 5), (COLUMN, "b", 7), (TWO, "*", 0), (VALUE, 1, 0), (TWO, ">=", 0),
             (TWO, "and", 0), (COLUMN, "c", 12), (TWO, "-", 0)])

    def test_the_places_of_names(self):
        expression = read_results("-a * (b + 'x') or not c is null and a")[0]
        self.assertEqual(names_of(expression), [("a", 3), ("b", 6), ("c", 12), ("a", 16)])


class WithinTest(ReadingCase):
    def read_first(self, expression):
        """Reads it wherever an expression may stand; the places told count from its first word on."""
        places = []
        for ahead, behind in (("select ", " from t"), ("select a, ", " from t"), ("insert into t values (", ")"),
                              ("update t set a = ", ""), ("delete from t where ", ""), ("select * from t where ", "")):
            try:
                read_statement(ahead + expression + behind)
                places.append(0)
            except WrongWord as wrong:
                # In each of these the words ahead are set apart by blanks, but for signs.
                words = len(ahead.replace("(", " ( ").replace(",", " , ").split())
                places.append(wrong.place - words)
        self.assertEqual(len(set(places)), 1, expression)
        return places[0]

    def nest(self, kinds):
        ahead = "".join({"(": "(", "-": "- ", "n": "not "}[kind] for kind in kinds)
        return ahead + "a" + ")" * kinds.count("(")

    def test_24_of_one_kind(self):
        for kind in "(-n":
            self.assertEqual(self.read_first(self.nest(kind * 23)), 0)
            self.assertEqual(self.read_first(self.nest(kind * 24)), 0)
            for many in (25, 26, 30, 60):
                self.assertEqual(self.read_first(self.nest(kind * many)), 25)

    def test_24_in_a_mixture(self):
        # No `not` stands right behind a `-`: where it shall lie within one, a bracket is between.
        for kinds in ("(-" * 12, "-(" * 12, "n(" * 12, "(n" * 12, "n(-(" * 6, "(n-(" * 6, "n" * 12 + "-" * 12,
                      "n" * 8 + "(" * 8 + "-" * 8, "-(n(" * 6, "nn((--((" * 3):
            self.assertEqual(len(kinds), 24)
            self.assertEqual(self.read_first(self.nest(kinds)), 0, kinds)
            self.assertEqual(self.read_first(self.nest(kinds[:-1])), 0, kinds)
            self.assertEqual(self.read_first(self.nest(kinds + "-")), 25, kinds)
            self.assertEqual(self.read_first(self.nest(kinds + "(")), 25, kinds)
            if kinds[-1] != "-":
                self.assertEqual(self.read_first(self.nest(kinds + "n")), 25, kinds)

    def test_what_is_read_is_whole(self):
        self.assertEqual(show_read(self.nest("-" * 24)), "(-" * 24 + "a" + ")" * 24)
        self.assertEqual(show_read(self.nest("n" * 24)), "(not " * 24 + "a" + ")" * 24)
        self.assertEqual(show_read(self.nest("(" * 24)), "a")
        self.assertEqual(show_read(self.nest("-(" * 12)), "(-" * 12 + "a" + ")" * 12)

    def test_more_than_24_that_do_not_lie_within_one_another(self):
        for text in (
                " and ".join(["not a"] * 60), " or ".join(["not not a"] * 30), "+".join(["(a)"] * 60),
                "*".join(["-a"] * 60), "-".join(["-a"] * 60), "-" * 24 + "a*" + "-" * 24 + "b",
                "not " * 24 + "a and " + "not " * 24 + "b", "(" * 24 + "a" + ")" * 24 + "=" + "(" * 24 + "a" + ")" * 24,
                "-(" * 12 + "a" + ")" * 12 + "+" + "-(" * 12 + "b" + ")" * 12,
                "(" + "*".join(["-" * 23 + "a"] * 4) + ")", "not " * 23 + "-a = -b or " + "not " * 23 + "(a)"):
            self.assertEqual(self.read_first(text), 0, text)

    def test_what_stands_behind_in_a_nots_operand_lies_within_it(self):
        self.assertEqual(self.read_first("not " * 24 + "a = b"), 0)
        self.assertEqual(self.read_first("not " * 24 + "a = -b"), 27)
        self.assertEqual(self.read_first("not " * 24 + "a = (b)"), 27)
        self.assertEqual(self.read_first("not " * 24 + "a * -b"), 27)
        self.assertEqual(self.read_first("not " * 24 + "a + b * (c)"), 29)
        self.assertEqual(self.read_first("not " * 24 + "a and -b"), 0)
        self.assertEqual(self.read_first("not " * 23 + "a = (b)"), 0)
        self.assertEqual(self.read_first("not " * 23 + "a = (-b)"), 27)

    def test_what_stands_behind_in_a_bracket_lies_within_it(self):
        self.assertEqual(self.read_first("(" * 24 + "a + -b" + ")" * 24), 27)
        self.assertEqual(self.read_first("(" * 24 + "a or not b" + ")" * 24), 27)
        self.assertEqual(self.read_first("(" * 24 + "a * (b)" + ")" * 24), 27)
        self.assertEqual(self.read_first("(" * 24 + "a" + ")" * 24 + " - -b"), 0)
        self.assertEqual(self.read_first("(" * 23 + "a" + ")" * 23 + " - (-b)"), 0)

    def test_the_not_of_is_not_null_and_the_minus_between_do_not_count(self):
        self.assertEqual(self.read_first("(" * 24 + "a is not null" + ")" * 24), 0)
        self.assertEqual(self.read_first("(" * 24 + "a - b - c" + ")" * 24), 0)
        self.assertEqual(self.read_first("not " * 24 + "a - b is not null"), 0)

    def test_each_expression_counts_by_itself(self):
        deep = self.nest("(" * 24)
        read_statement(f"select {deep}, {deep} from t where {deep}")
        read_statement(f"update t set a = {deep}, b = {deep} where {deep}")
        read_statement(f"insert into t values ({deep}, {deep})")
        self.assert_wrong(f"select {deep}, (({deep})) from t", 1 + 49 + 1 + 25)

    def test_no_deep_calls(self):
        depth = 0
        frame = sys._getframe()
        while frame:
            depth, frame = depth + 1, frame.f_back
        limit = sys.getrecursionlimit()
        deepest = "a or b and c = d + e * (" * 24 + "a" + ")" * 24
        longest = "+".join(["a"] * 2000)
        sys.setrecursionlimit(depth + 260)
        try:
            read_statement(f"select {deepest} from t")
            expression = read_statement(f"select {longest} from t").expressions[0]
        finally:
            sys.setrecursionlimit(limit)
        self.assertEqual(len(expression), 3999)


class NothingKeptTest(ReadingCase):
    def test_every_statement_has_every_value(self):
        for text in ("begin", "drop table t", "savepoint s"):
            statement = read_statement(text)
            self.assertEqual((statement.columns, statement.expressions, statement.changes), ([], [], []))
            self.assertEqual((statement.where, statement.order, statement.limit), (None, None, None))
            self.assertIs(statement.desc, False)

    def test_each_reading_is_a_new_one(self):
        text = "select a from t"
        first = read_statement(text)
        first.expressions[0].append("more")
        first.expressions.append("more")
        self.assertEqual(show_all(read_statement(text).expressions), ["a"])
        made = read_statement("create table t (a int)")
        made.columns.append("more")
        self.assertEqual(len(read_statement("create table t (a int)").columns), 1)


if __name__ == "__main__":
    unittest.main()
