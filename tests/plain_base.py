"""A database of plain lists of rows, and statements by chance: what the replies of ledgerdb.bases are held against.

A statement is a `Said`: its text, and beside it what it says, so that nothing here is read from a text. A name is
a tuple (name, place). An expression is a tuple: ("value", value), ("column", name, place), (operator, operand) or
(operator, operand, operand).
"""

import copy

TABLES = ("t", "u", "v_1", "w", "a_long_name_of_a_table_that_has_forty_signs")
COLUMNS = ("a", "b", "c3", "d_", "e", "f", "g", "another_long_name")
MARKS = ("p", "q", "t")
TEXTS = ("", "x", "xy", "it's", "''", "a\nb", "\n", " ", "~", "\\", "select", "0", "<>(),!\"#$&*", "A" * 20, "~" * 20,
         "\n" * 19 + "'", "z" * 21)
NUMBERS = (0, 0, 1, 1, 2, 3, 4, 5, 255, 256, 65536, 10 ** 29, 10 ** 30 - 1)
LARGEST = 10 ** 30


class Said:
    def __init__(self, kind):
        self.kind = kind
        self.words = []
        self.target = None
        self.columns = []
        self.expressions = []
        self.changes = []
        self.where = None
        self.order = None
        self.desc = False
        self.limit = None

    def put(self, *words):
        self.words.extend(words)
        return self

    def put_name(self, name):
        self.words.append(name)
        return (name, len(self.words))

    def text(self, chance):
        between = chance.choice((" ", " ", "\n", "  \n "))
        return between.join(self.words)


def write_value(value):
    if value is None:
        return "null"
    return "'" + value.replace("'", "''") + "'" if isinstance(value, str) else str(value)


class Chance:
    """Makes statements by chance, most of them such that they have a good chance to be taken."""

    def __init__(self, chance, wrong=12):
        self.chance = chance
        # One in so many names is taken from all there are, there or not.
        self.wrong = wrong

    def pick(self, likely, all_there_are):
        likely = list(likely)
        if not likely or self.chance.randrange(self.wrong) == 0:
            return self.chance.choice(all_there_are)
        return self.chance.choice(likely)

    def statement(self, plain):
        kinds = ["insert"] * 9 + ["update"] * 4 + ["delete"] * 2 + ["select"] * 3 + ["create"] * 2 + ["drop"]
        if plain.marks is None:
            kinds += ["begin"] * 3 + ["commit", "rollback", "savepoint", "rollback to"][:self.chance.randrange(5)]
        else:
            kinds += ["commit"] * 2 + ["rollback"] + ["savepoint"] * 3 + ["rollback to"] * 3
            kinds += ["begin"][:self.chance.randrange(2)]
        if not plain.tables:
            kinds += ["create"] * 20
        return getattr(self, "make_" + self.chance.choice(kinds).replace(" ", "_"))(plain)

    def columns_of(self, plain, name):
        return [column[0] for column in plain.tables.get(name, ([], []))[0]]

    def make_create(self, plain):
        said = Said("create").put("create", "table")
        said.target = said.put_name(self.pick([name for name in TABLES if name not in plain.tables], TABLES))
        many = self.chance.choice((1, 2, 2, 3, 3, 4, 5, 6, 7))
        names = list(COLUMNS)
        self.chance.shuffle(names)
        if self.chance.randrange(self.wrong) == 0:
            names[1] = names[0]
        said.put("(")
        for k in range(many):
            said.put(*[","] * min(k, 1))
            name, place = said.put_name(names[k])
            kind = self.chance.choice(("int", "int", "text"))
            not_null, unique = self.chance.randrange(4) == 0, self.chance.randrange(4) == 0
            said.put(kind, *["not", "null"] * not_null, *["unique"] * unique)
            said.columns.append((name, place, kind, not_null, unique))
        said.put(")")
        return said

    def make_drop(self, plain):
        said = Said("drop").put("drop", "table")
        said.target = said.put_name(self.pick(plain.tables, TABLES))
        return said

    def make_insert(self, plain):
        said = Said("insert").put("insert", "into")
        said.target = said.put_name(self.pick(plain.tables, TABLES))
        columns = plain.tables.get(said.target[0], ([], []))[0]
        kinds = [kind for name, kind, not_null, unique in columns] or ["int"]
        if self.chance.randrange(self.wrong) == 0:
            kinds = (kinds * 9)[:self.chance.randint(1, 9)]
        said.put("values", "(")
        for k, kind in enumerate(kinds):
            said.put(*[","] * min(k, 1))
            said.expressions.append(self.expression(said, [], kind, self.chance.choice((0, 0, 1, 2))))
        said.put(")")
        return said

    def make_update(self, plain):
        said = Said("update").put("update")
        said.target = said.put_name(self.pick(plain.tables, TABLES))
        columns = self.columns_of(plain, said.target[0])
        said.put("set")
        names = list(columns) or ["a"]
        self.chance.shuffle(names)
        if self.chance.randrange(self.wrong) == 0:
            names += names[:1]
        kinds = {column[0]: column[1] for column in plain.tables.get(said.target[0], ([], []))[0]}
        for k, name in enumerate(names[:self.chance.choice((1, 1, 2, 3, 9))]):
            said.put(*[","] * min(k, 1))
            name, place = said.put_name(self.pick([name], COLUMNS))
            said.put("=")
            said.changes.append((name, place, self.expression(said, columns, kinds.get(name, "int"), 1)))
        self.maybe_where(said, columns)
        return said

    def make_delete(self, plain):
        said = Said("delete").put("delete", "from")
        said.target = said.put_name(self.pick(plain.tables, TABLES))
        self.maybe_where(said, self.columns_of(plain, said.target[0]), most=9)
        return said

    def make_select(self, plain):
        said = Said("select").put("select")
        target = self.pick(plain.tables, TABLES)
        columns = self.columns_of(plain, target)
        if self.chance.randrange(3) == 0:
            said.put("*")
            said.expressions = None
        else:
            for k in range(self.chance.choice((1, 2, 3, 8, 9))):
                said.put(*[","] * min(k, 1))
                said.expressions.append(self.expression(said, columns, None, self.chance.choice((0, 1, 2))))
        said.put("from")
        said.target = said.put_name(target)
        self.maybe_where(said, columns)
        if self.chance.randrange(2):
            said.put("order", "by")
            said.order = said.put_name(self.pick(columns, COLUMNS))
            said.desc = self.chance.randrange(2) == 0
            said.put(*["desc"] * said.desc)
        if self.chance.randrange(3) == 0:
            said.limit = self.chance.choice((0, 1, 2, 5, 40, LARGEST - 1))
            said.put("limit", str(said.limit))
        return said

    def make_begin(self, plain):
        return Said("begin").put("begin")

    def make_commit(self, plain):
        return Said("commit").put("commit")

    def make_rollback(self, plain):
        return Said("rollback").put("rollback")

    def make_rollback_to(self, plain):
        said = Said("rollback to").put("rollback", "to")
        said.target = said.put_name(self.pick([name for name, tables in plain.marks or []], MARKS))
        return said

    def make_savepoint(self, plain):
        said = Said("savepoint").put("savepoint")
        said.target = said.put_name(self.chance.choice(MARKS))
        return said

    def maybe_where(self, said, columns, most=3):
        if self.chance.randrange(most):
            said.put("where")
            said.where = self.expression(said, columns, None, self.chance.choice((1, 1, 2, 3)))

    def expression(self, said, columns, kind, depth):
        """`kind` tells what kind of value is likely to come out; None for any."""
        if depth == 0 or kind == "text":
            return self.last(said, columns, kind)
        choice = self.chance.randrange(10)
        if choice < 2:
            said.put("-" if choice else "not", "(")
            inner = self.expression(said, columns, "int", depth - 1)
            said.put(")")
            return ("minus" if choice else "not", inner)
        said.put("(")
        left = self.expression(said, columns, None if choice > 4 else "int", depth - 1)
        said.put(")")
        if choice == 9:
            negated = self.chance.randrange(2) == 0
            said.put("is", *["not"] * negated, "null")
            return ("is not null" if negated else "is null", left)
        signs = ("=", "<>", "<", "<=", ">", ">=", "or", "and") if choice > 4 else ("+", "+", "-", "-", "*")
        sign = self.chance.choice(signs)
        said.put(sign, "(")
        right = self.expression(said, columns, None if choice > 4 else "int", depth - 1)
        said.put(")")
        return (sign, left, right)

    def last(self, said, columns, kind):
        wrong = self.chance.randrange(self.wrong * 6) == 0
        if wrong or (columns and self.chance.randrange(2)):
            return ("column", *said.put_name(self.chance.choice(COLUMNS if wrong else columns)))
        likely = {"int": NUMBERS + NUMBERS + (None, "x"), "text": TEXTS + TEXTS + (None, 1)}
        value = self.chance.choice(likely.get(kind, NUMBERS + TEXTS + (None,)))
        said.put(write_value(value))
        return ("value", value)


def columns_in(expression):
    if expression[0] == "column":
        return [expression[1:]]
    if expression[0] == "value":
        return []
    return [name for operand in expression[1:] for name in columns_in(operand)]


def come_to(expression, row):
    operator = expression[0]
    if operator == "value":
        return expression[1]
    if operator == "column":
        return row[expression[1]]
    operands = [come_to(operand, row) for operand in expression[1:]]
    if operator in ("is null", "is not null"):
        return int((operands[0] is None) == (operator == "is null"))
    if operator in ("and", "or"):
        deciding = operator == "or"
        truths = [None if value is None else value != 0 for value in operands]
        if deciding in truths:
            return int(deciding)
        return None if None in truths else int(not deciding)
    if None in operands:
        return None
    if operator == "not":
        return int(operands[0] == 0)
    if operator in ("+", "-", "*", "minus"):
        if not all(isinstance(value, int) for value in operands):
            return None
        number = {"+": sum(operands), "-": operands[0] - operands[-1], "*": operands[0] * operands[-1],
                  "minus": -operands[0]}[operator]
        return number if -LARGEST <= number <= LARGEST else None
    left, right = [(isinstance(value, str), value) for value in operands]
    return int({"=": left == right, "<>": left != right, "<": left < right, "<=": left <= right, ">": left > right,
                ">=": left >= right}[operator])


class Refused(Exception):
    pass


class PlainBase:
    """`tables` is a dict from names to (columns, rows), each a list; a column is (name, kind, not null, unique)."""

    def __init__(self):
        self.tables = {}
        self.kept = {}
        # A list of (name, tables) within a transaction.
        self.marks = None

    def behind(self, said):
        """A tuple (what this database is behind the statement, the reply), had the disk room and fuel enough."""
        new = copy.deepcopy(self)
        try:
            return new, ("ok", 0, new.run(said))
        except Refused as refused:
            return self, (*refused.args, 0)

    def keeps(self, said):
        """Whether something is to be kept by a statement that is taken."""
        changing = ("create", "drop", "insert", "update", "delete")
        return said.kind == "commit" or (self.marks is None and said.kind in changing)

    def run(self, said):
        inside = ("commit", "rollback", "rollback to", "savepoint")
        if (said.kind == "begin" and self.marks is not None) or (said.kind in inside and self.marks is None):
            raise Refused("state", 0)
        self.check_names(said)
        self.check_room(said)
        answer = getattr(self, "run_" + said.kind.replace(" ", "_"))(said)
        if self.marks is None:
            self.kept = copy.deepcopy(self.tables)
        return answer

    def check_names(self, said):
        found = {}
        if said.kind == "rollback to" and said.target[0] not in [name for name, tables in self.marks]:
            raise Refused("name", said.target[1])
        if said.kind in ("drop", "insert", "update", "delete", "select") and said.target[0] not in self.tables:
            raise Refused("name", said.target[1])
        if said.kind == "create" and said.target[0] in self.tables:
            found[said.target[1]] = "exists"
        named = [column[:2] for column in said.columns] + [change[:2] for change in said.changes]
        for k, (name, place) in enumerate(named):
            if name in [other for other, _ in named[:k]]:
                found.setdefault(place, "exists")
        if said.kind in ("insert", "update", "delete", "select"):
            there = [column[0] for column in self.tables[said.target[0]][0]] if said.kind != "insert" else []
            expressions = [change[2] for change in said.changes] + (said.expressions or [])
            expressions += [said.where] * bool(said.where)
            uses = [use for expression in expressions for use in columns_in(expression)]
            uses += [change[:2] for change in said.changes] + [said.order] * bool(said.order)
            for name, place in uses:
                if name not in there:
                    found[place] = "name"
        if found:
            raise Refused(found[min(found)], min(found))

    def check_room(self, said):
        many = {
            "table": len(self.tables) + (said.kind == "create"),
            "column": len(said.columns),
            "part": max(len(said.expressions or []), len(said.changes)),
            "row": len(self.tables[said.target[0]][1]) + 1 if said.kind == "insert" else 0,
            "mark": len(self.marks or []) + (said.kind == "savepoint"),
        }
        most = {"table": 4, "column": 6, "part": 8, "row": 40, "mark": 4}
        if any(many[name] > most[name] for name in most):
            raise Refused("room", 0)

    def check_rows(self, columns, rows):
        for k, (name, kind, not_null, unique) in enumerate(columns):
            values = [row[k] for row in rows if row[k] is not None]
            right = all(isinstance(value, int) if kind == "int" else isinstance(value, str) and len(value) <= 20
                        for value in values)
            if not right or (not_null and len(values) < len(rows)) or (unique and len(set(values)) < len(values)):
                raise Refused("constraint", 0)

    def run_create(self, said):
        self.tables[said.target[0]] = ([(name, *rest) for name, place, *rest in said.columns], [])
        return 0

    def run_drop(self, said):
        del self.tables[said.target[0]]
        return 0

    def run_insert(self, said):
        columns, rows = self.tables[said.target[0]]
        row = tuple(come_to(expression, {}) for expression in said.expressions)
        if len(row) != len(columns):
            raise Refused("constraint", 0)
        rows.append(row)
        self.check_rows(columns, rows)
        return 1

    def taken(self, said):
        columns, rows = self.tables[said.target[0]]
        named = [dict(zip([column[0] for column in columns], row)) for row in rows]
        return [said.where is None or come_to(said.where, row) not in (None, 0) for row in named], named

    def run_update(self, said):
        columns, rows = self.tables[said.target[0]]
        taken, named = self.taken(said)
        for k, row in enumerate(named):
            if taken[k]:
                rows[k] = tuple({**row, **{name: come_to(e, row) for name, place, e in said.changes}}.values())
        self.check_rows(columns, rows)
        return sum(taken)

    def run_delete(self, said):
        columns, rows = self.tables[said.target[0]]
        taken, named = self.taken(said)
        rows[:] = [row for k, row in enumerate(rows) if not taken[k]]
        return sum(taken)

    def run_select(self, said):
        taken, named = self.taken(said)
        rows = [row for k, row in enumerate(named) if taken[k]]
        if said.order:
            values = {row[said.order[0]] for row in rows}
            unlike = [None] + sorted(value for value in values if isinstance(value, int))
            unlike += sorted(value for value in values if isinstance(value, str))
            unlike = unlike[::-1] if said.desc else unlike
            rows = [row for value in unlike for row in rows if row[said.order[0]] == value]
        rows = rows if said.limit is None else rows[:said.limit]
        if said.expressions is None:
            return [tuple(row.values()) for row in rows]
        return [tuple(come_to(expression, row) for expression in said.expressions) for row in rows]

    def run_begin(self, said):
        self.marks = []
        return 0

    def run_commit(self, said):
        self.marks = None
        return 0

    def run_rollback(self, said):
        self.tables, self.marks = copy.deepcopy(self.kept), None
        return 0

    def run_savepoint(self, said):
        self.marks.append((said.target[0], copy.deepcopy(self.tables)))
        return 0

    def run_rollback_to(self, said):
        while self.marks[-1][0] != said.target[0]:
            self.marks.pop()
        self.tables = copy.deepcopy(self.marks[-1][1])
        return 0


def count_of(tables):
    """The count of [4.4]."""
    count = 0
    for name, (columns, rows) in tables.items():
        count += 30 + len(name) + sum(30 + len(column[0]) for column in columns) + 4 * len(rows)
        for value in [value for row in rows for value in row]:
            count += 20 if isinstance(value, int) else 4 + len(value or "")
    return count


def pages_enough(kept, new):
    """With how many pages [4.4] promises that there are not too few."""
    return 6 + -(-count_of(kept) // 15) + -(-count_of(new) // 15)
