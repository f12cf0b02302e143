"""[16] Texts of schemas, data, notes and queries."""

from itertools import product

from surelyplan.errors import BadData, BadNotes, BadQuery, BadSchema, BadText, PlanError
from surelyplan.queries import Query
from surelyplan.schemas import Data, Schema
from surelyplan.statistics import Statistics
from surelyplan.texts import data_text, notes_text, query_text, read_data, read_notes, read_query, read_schema, schema_text
from tests import oracle
from tests.checks import DATA, QUERY, SCHEMA, STATS, Case, Fault, odd_except
from tests.forms import NOTES_FORM, QUERY_FORM, SCHEMA_FORM, VOCABULARY, data_form, fault_of, joined
from tests.random_cases import any_schema, chance_of, draw_data, draw_query, draw_stats

FOUR = Schema(3, (2, 1, 2, 1))


def all_schemas():
    for size in range(2, 7):
        for many in range(1, 5):
            for widths in product((1, 2), repeat=many):
                yield Schema(size, widths)


def blanks_of(chance):
    return lambda: chance.choice(("", "", " ", "  ", "\n", " \n ", "\n\n"))


def words_of(text):
    """The words, numbers and marks of a text that is written in the one way."""
    for mark in "(){},:;":
        text = text.replace(mark, f" {mark} ")
    return text.split()


class Written(Case):

    def test_schemas(self):
        self.assertEqual("values 2 widths 1", schema_text(Schema(2, (1,))))
        self.assertEqual("values 6 widths 2, 1, 1, 2", schema_text(Schema(6, (2, 1, 1, 2))))
        for schema in all_schemas():
            widths = ", ".join("12"[width - 1] for width in schema.widths)
            self.assertEqual("values " + str(schema.size) + " widths " + widths, schema_text(schema))

    def test_data(self):
        self.assertEqual("r: (0, 0) has 1, (0, 1) has 1, (1, 1) has 1; s: (0) has 1, (1) has 2", data_text(DATA))
        self.assertEqual("r: nothing; s: nothing", data_text(Data(SCHEMA, ((0,) * 4, (0, 0)))))
        self.assertEqual("r: nothing; s: (1) has 9", data_text(Data(SCHEMA, ((0,) * 4, (0, 9)))))
        self.assertEqual("r: (5) has 3", data_text(Data(Schema(6, (1,)), ((0, 0, 0, 0, 0, 3),))))
        four = Data(Schema(2, (1, 1, 1, 1)), ((1, 0), (0, 0), (0, 2), (3, 4)))
        self.assertEqual("r: (0) has 1; s: nothing; t: (1) has 2; u: (0) has 3, (1) has 4", data_text(four))
        full = Data(SCHEMA, ((9,) * 4, (9, 9)))
        wanted = "r: (0, 0) has 9, (0, 1) has 9, (1, 0) has 9, (1, 1) has 9; s: (0) has 9, (1) has 9"
        self.assertEqual(wanted, data_text(full))

    def test_notes(self):
        for note, text in (
            (("rows", 0, 2, 5), "rows of r: 2 to 5"), (("rows", 3, 81, 0), "rows of u: 81 to 0"),
            (("value", 0, 1, 2, 0, 3), "value 2 in column 1 of r: 0 to 3"),
            (("value", 1, 0, 1, 10, 9), "value 1 in column 0 of s: 10 to 9"),
            (("cell", 2, (1, 2), 1, 1), "cell (1, 2) of t: 1 to 1"), (("cell", 1, (0,), 0, 0), "cell (0) of s: 0 to 0"),
        ):
            self.assertEqual(text, notes_text(Statistics(FOUR, [note])))
            self.assertEqual(f"{text}; rows of r: 0 to 1; {text}", notes_text(Statistics(FOUR, [note, ("rows", 0, 0, 1), note])))
        self.assertEqual("nothing", notes_text(Statistics(FOUR, [])))
        self.assertEqual("; ".join(["rows of r: 0 to 1"] * 16), notes_text(Statistics(FOUR, [("rows", 0, 0, 1)] * 16)))

    def test_queries(self):
        for atoms, filters, shown, text in (
            (((0, (0, 1)), (1, (1,))), ((0, (0, 2)), (1, ())), (1, 0),
             "show b, a from r(a, b), s(b) where a in {0, 2} and b in {}"),
            (((0, (0, 0)),), (), (), "show nothing from r(a, a)"),
            (((3, (0,)),), ((0, (1,)),), (), "show nothing from u(a) where a in {1}"),
            (((2, (5, 4)), (0, (3, 2)), (2, (1, 0)), (1, (0,))), (), (5, 4, 3, 2, 1, 0),
             "show f, e, d, c, b, a from t(f, e), r(d, c), t(b, a), s(a)"),
            (((1, (0,)), (1, (1,)), (1, (2,))), ((0, ()), (1, (0, 1, 2)), (2, (2,))), (2,),
             "show c from s(a), s(b), s(c) where a in {} and b in {0, 1, 2} and c in {2}"),
        ):
            query = Query(FOUR, atoms, filters, shown)
            self.assertEqual(text, query_text(query))
            self.assertEqual(query, read_query(FOUR, text))

    def test_errors(self):
        self.assert_refused(schema_text, (SCHEMA,), 0, odd_except(Schema), BadSchema)
        self.assert_refused(data_text, (DATA,), 0, odd_except(Data), BadData, table=None)
        self.assert_refused(notes_text, (STATS,), 0, odd_except(Statistics), BadNotes, index=None)
        self.assert_refused(query_text, (QUERY,), 0, odd_except(Query), BadQuery, part=None)


class ReadAgain(Case):
    """Each text is read as what it was written from, with any blanks between its words."""

    def check(self, wanted, text, read):
        self.assertEqual(wanted, read(text))
        for seed in range(3):
            other, _ = joined(words_of(text), blanks_of(chance_of(seed)))
            self.assertEqual(wanted, read(other))
        closest, _ = joined(words_of(text), lambda: "")
        self.assertEqual(wanted, read(closest))

    def test_schemas(self):
        for schema in all_schemas():
            self.check(schema, schema_text(schema), read_schema)

    def test_data(self):
        chance = chance_of(91)
        for turn in range(60):
            schema = any_schema(chance)
            data = draw_data(chance, schema, most=(0, 1, 9)[turn % 3])
            self.check(data, data_text(data), lambda text: read_data(schema, text))

    def test_notes(self):
        chance = chance_of(92)
        for turn in range(60):
            schema = any_schema(chance, most_size=3)
            stats = draw_stats(chance, schema, turn % 17, spread=5)
            self.check(stats, notes_text(stats), lambda text: read_notes(schema, text))

    def test_every_note(self):
        for table, width in enumerate(FOUR.widths):
            for quantity in oracle.quantities(FOUR, table):
                stats = Statistics(FOUR, [oracle.note_about(quantity, table, 3, 81)])
                self.assertEqual(stats, read_notes(FOUR, notes_text(stats)))

    def test_queries(self):
        chance = chance_of(93)
        for _ in range(120):
            schema = any_schema(chance)
            query = draw_query(chance, schema, most_variables=chance.randint(1, 6))
            self.check(query, query_text(query), lambda text: read_query(schema, text))

    def test_words_directly_behind_numbers_and_marks(self):
        self.assertEqual(Schema(3, (2, 1)), read_schema("values3widths2,1"))
        self.assertEqual(Data(SCHEMA, ((0, 4, 0, 0), (0, 0))), read_data(SCHEMA, "r:(0,1)has4;s:nothing"))
        self.assertEqual(STATS.notes[:1], read_notes(SCHEMA, "rows of r:3to3").notes)
        self.assertEqual((("value", 0, 1, 0, 2, 2),), read_notes(SCHEMA, "value0in column1of r:2to2").notes)
        self.assertEqual(((0, (0, 1)),), read_query(SCHEMA, "show nothing from r(a,b)where a in{0}and b in{}").atoms)

    def test_cells_in_another_order(self):
        chance = chance_of(94)
        for _ in range(20):
            data = draw_data(chance, FOUR, most=2)
            parts = []
            for name, counts, table in zip("rstu", data.tables, range(4)):
                rows = [(cell, count) for cell, count in zip(oracle.cells(FOUR, table), counts) if count]
                chance.shuffle(rows)
                rows = [f"({', '.join(map(str, cell))}) has {count}" for cell, count in rows]
                parts.append(f"{name}: {', '.join(rows) or 'nothing'}")
            self.assertEqual(data, read_data(FOUR, "; ".join(parts)))


class Places(Case):
    """Where a text cannot go on."""

    GOOD = (
        (read_schema, (), SCHEMA_FORM, "values 3 widths 2, 1, 1"),
        (read_data, (SCHEMA,), data_form(2), "r: (0, 1) has 2, (1, 0) has 1; s: (1) has 4"),
        (read_data, (SCHEMA,), data_form(2), "r: nothing; s: nothing"),
        (read_data, (FOUR,), data_form(4), "r: (0, 2) has 1; s: nothing; t: (1, 1) has 9; u: (0) has 1, (2) has 2"),
        (read_data, (Schema(2, (1,)),), data_form(1), "r: (1) has 2"),
        (read_notes, (FOUR,), NOTES_FORM, "rows of r: 1 to 3; value 1 in column 0 of s: 0 to 2; cell (0, 1) of t: 0 to 0"),
        (read_notes, (FOUR,), NOTES_FORM, "nothing"),
        (read_query, (FOUR,), QUERY_FORM, "show b, a from r(a, b), s(b) where a in {0, 2} and b in {}"),
        (read_query, (FOUR,), QUERY_FORM, "show nothing from r(a, a)"),
    )

    def check(self, read, before, form, words, blanks):
        """A text is refused at the first word that the form does not allow, or at its end, or not as a text."""
        text, places = joined(words, blanks)
        fault = fault_of(form, words)
        if fault is not None:
            self.assert_fault(read, before + (text,), BadText, {"at": places[fault]})
            return
        try:
            read(*before, text)
        except PlanError as error:
            self.assertNotIsInstance(error, BadText, text)

    def test_every_word_at_every_place(self):
        for read, before, form, good in self.GOOD:
            words = words_of(good)
            self.assertIsNone(fault_of(form, words))
            for place in range(len(words) + 1):
                for other in VOCABULARY:
                    self.check(read, before, form, words[:place] + [other], lambda: "")
                    self.check(read, before, form, words[:place] + [other] + words[place + 1:], lambda: " ")
                    self.check(read, before, form, words[:place] + [other] + words[place:], lambda: "")

    def test_every_text_that_ends_too_early(self):
        for read, before, form, good in self.GOOD:
            words = words_of(good)
            for place in range(len(words) + 1):
                for blank in ("", " ", "\n\n"):
                    self.check(read, before, form, words[:place], lambda: blank)

    def test_random_changes(self):
        chance = chance_of(95)
        for _ in range(3000):
            read, before, form, good = chance.choice(self.GOOD)
            words = words_of(good)
            for _ in range(chance.randint(1, 3)):
                place = chance.randrange(len(words) + 1)
                change = chance.choice(("put", "take", "swap", "repeat"))
                if change == "put":
                    words.insert(place, chance.choice(VOCABULARY))
                elif change == "take":
                    del words[place:place + 1]
                elif change == "swap":
                    words[place:place + 1] = [chance.choice(VOCABULARY)]
                else:
                    words[place:place] = words[:place]
            self.check(read, before, form, words, blanks_of(chance))

    def test_some_places(self):
        for read, before, text, at in (
            (read_schema, (), "", 0), (read_schema, (), "  \n", 3), (read_schema, (), "values", 6), (read_schema, (), "value 3", 0),
            (read_schema, (), "values x", 7), (read_schema, (), "values 3 widths 2,", 18), (read_schema, (), "values 3 widths 2 1", 18),
            (read_schema, (), "values 3 widths", 15), (read_schema, (), "values 3, widths 2", 8),
            (read_data, (SCHEMA,), "r: nothing", 10), (read_data, (SCHEMA,), "r: nothing;", 11),
            (read_data, (SCHEMA,), "s: nothing; r: nothing", 0), (read_data, (SCHEMA,), "r: nothing; t: nothing", 12),
            (read_data, (SCHEMA,), "r: nothing; s: nothing; t: nothing", 22), (read_data, (SCHEMA,), "r: nothing, s: nothing", 10),
            (read_data, (SCHEMA,), "r: (0, 1) has 1, nothing; s: nothing", 17), (read_data, (SCHEMA,), "r: ; s: nothing", 3),
            (read_data, (SCHEMA,), "r: () has 1; s: nothing", 4), (read_data, (SCHEMA,), "r: nothing; s: nothing;", 22),
            (read_notes, (SCHEMA,), "", 0), (read_notes, (SCHEMA,), "nothing; rows of r: 0 to 1", 7),
            (read_notes, (SCHEMA,), "rows of r: 0 to 1;", 18), (read_notes, (SCHEMA,), "rows of v: 0 to 1", 8),
            (read_notes, (SCHEMA,), "rows of r: 0 to 1; nothing", 19), (read_notes, (SCHEMA,), "value 1 in r: 0 to 1", 11),
            (read_query, (SCHEMA,), "show from r(a, b)", 5), (read_query, (SCHEMA,), "show nothing, a from r(a, b)", 12),
            (read_query, (SCHEMA,), "show g from r(a, b)", 5), (read_query, (SCHEMA,), "show a from r()", 14),
            (read_query, (SCHEMA,), "show a from r(a, b) where", 25), (read_query, (SCHEMA,), "show a from r(a, b) and a in {}", 20),
            (read_query, (SCHEMA,), "show a from r(a, b) where a in {0} where b in {}", 35),
            (read_query, (SCHEMA,), "show a from r(a, b) where a in {0,}", 34), (read_query, (SCHEMA,), "show a from a(a, b)", 12),
            (read_query, (SCHEMA,), "show a from r a", 14), (read_query, (SCHEMA,), "showa from r(a, b)", 0),
        ):
            self.assert_fault(read, before + (text,), BadText, {"at": at})

    def test_long_texts(self):
        many = 60000
        for read, before, text, at in (
            (read_schema, (), "values 3 widths " + "1, " * many, 16 + 3 * many), (read_schema, (), "(" * many, 0),
            (read_data, (SCHEMA,), "r: " + "(0, 0) has 1, " * many, 3 + 14 * many), (read_data, (SCHEMA,), "r: " + "(" * many, 4),
            (read_data, (SCHEMA,), "r: (" + "0," * many, 4 + 2 * many), (read_data, (SCHEMA,), "r:" * many, 2),
            (read_notes, (SCHEMA,), "rows of r: 0 to 1;" * many, 18 * many), (read_notes, (SCHEMA,), "cell (" + "1," * many, 6 + 2 * many),
            (read_query, (SCHEMA,), "show " + "a, " * many, 5 + 3 * many),
            (read_query, (SCHEMA,), "show a from " + "r(a)," * many, 12 + 5 * many),
            (read_query, (SCHEMA,), "show a from r(a) where " + "a in {0} and " * many, 23 + 13 * many),
            (read_query, (SCHEMA,), "show a from r(a) where a in {" + "0," * many, 29 + 2 * many),
        ):
            self.assert_fault(read, before + (text,), BadText, {"at": at})
        self.assert_fault(read_schema, ("values 3 widths 1" + ", 1" * many,), BadSchema)
        rows = ", ".join(["(0, 0) has 1"] * many)
        self.assert_fault(read_data, (SCHEMA, f"r: {rows}; s: nothing"), BadData, {"table": 0})
        notes = "; ".join(["rows of r: 0 to 1"] * many)
        self.assert_fault(read_notes, (SCHEMA, notes), BadNotes, {"index": None})
        for text, part in (
            ("show a from r(a, b)" + ", r(a, b)" * many, "atoms"), ("show a" + ", b" * many + " from r(a, b)", "shown"),
            ("show a from r(" + "a, " * many + "b)", "atoms"), ("show a from r(a, b) where a in {0" + ", 1" * many + "}", "filters"),
            ("show a from r(a, b) where a in {0}" + " and b in {}" * many, "filters"),
        ):
            self.assert_fault(read_query, (SCHEMA, text), BadQuery, {"part": part})


class Refused(Case):

    def test_what_is_not_a_text(self):
        values = [value for value in odd_except() if not isinstance(value, str)] + [b"nothing", ["nothing"]]
        self.assert_refused(read_schema, ("values 2 widths 1",), 0, values, BadText, at=None)
        for read, good in (
            (read_data, "r: nothing; s: nothing"), (read_notes, "nothing"), (read_query, "show a from r(a, a)"),
        ):
            self.assert_refused(read, (SCHEMA, good), 0, odd_except(Schema), BadSchema)
            self.assert_refused(read, (SCHEMA, good), 1, values, BadText, at=None)
            self.assert_error_order(read, (SCHEMA, good), [Fault(BadSchema, {0: None}), Fault(BadText, {1: None}, at=None)])
            self.assert_fault(read, (None, "A"), BadSchema)
            self.assert_fault(read, (None, "nothing nothing"), BadSchema)

    def test_faults_of_words_come_first(self):
        for read, before, text, at in (
            (read_schema, (), "no values? 3", 9), (read_schema, (), "x 01", 2), (read_schema, (), "values 7 widths 3, 00", 19),
            (read_data, (SCHEMA,), "r: (0, 5) has 1; s 12345", 19), (read_data, (SCHEMA,), "nothing.", 7),
            (read_notes, (SCHEMA,), "rows of x: 1 to 010", 16), (read_notes, (SCHEMA,), "rows of r: -1 to 1", 11),
            (read_query, (SCHEMA,), "show show show A", 15), (read_query, (SCHEMA,), "show a from r(a, b) where a in {0} and b in {00}", 45),
            (read_query, (SCHEMA,), "show a\tfrom r(a, b)", 6), (read_data, (SCHEMA,), "r: nothing\r\ns: nothing", 10),
        ):
            self.assert_fault(read, before + (text,), BadText, {"at": at})

    def test_schemas(self):
        for text in (
            "values 1 widths 1", "values 7 widths 1", "values 0 widths 1", "values 9999 widths 1", "values 2 widths 0",
            "values 2 widths 3", "values 2 widths 1, 1, 1, 1, 1", "values 2 widths 1, 2, 10",
        ):
            self.assert_fault(read_schema, (text,), BadSchema)
        self.assert_fault(read_schema, ("values 7 widths 1,",), BadText, {"at": 18})

    def test_data(self):
        for text, table in (
            ("r: (0, 0) has 0; s: nothing", 0), ("r: (0, 0) has 10; s: nothing", 0), ("r: nothing; s: (0) has 0", 1),
            ("r: (0, 2) has 1; s: nothing", 0), ("r: (2, 0) has 1; s: nothing", 0), ("r: (0) has 1; s: nothing", 0),
            ("r: (0, 0, 0) has 1; s: nothing", 0), ("r: nothing; s: (0, 0) has 1", 1), ("r: nothing; s: (2) has 1", 1),
            ("r: (0, 0) has 1, (0, 0) has 1; s: nothing", 0), ("r: (0, 1) has 1, (1, 0) has 1, (0, 1) has 2; s: nothing", 0),
            ("r: nothing; s: (1) has 1, (1) has 1", 1), ("r: (0, 0) has 9999; s: (0) has 0", 0),
            ("r: (0, 0) has 9; s: (0) has 9, (9999) has 9", 1), ("r: (0, 0) has 10, (0, 0) has 1; s: nothing", 0),
            ("r: (0, 0) has 1; s: (0) has 1, (1) has 10", 1),
        ):
            self.assert_fault(read_data, (SCHEMA, text), BadData, {"table": table})
        self.assert_fault(read_data, (SCHEMA, "r: (0, 0) has 0; s: (0) has"), BadText, {"at": 27})
        self.assertEqual((9, 0, 0, 1), read_data(SCHEMA, "r: (1, 1) has 1, (0, 0) has 9; s: nothing").tables[0])

    def test_notes(self):
        for text, index in (
            ("rows of t: 0 to 1", 0), ("rows of u: 0 to 1", 0), ("rows of r: 0 to 37", 0), ("rows of r: 9999 to 0", 0),
            ("rows of r: 0 to 1; cell (0) of r: 0 to 1", 1), ("cell (0, 0) of s: 0 to 1", 0), ("cell (0, 2) of r: 0 to 1", 0),
            ("cell (0, 0, 0) of r: 0 to 1", 0), ("value 2 in column 0 of r: 0 to 1", 0), ("value 0 in column 2 of r: 0 to 1", 0),
            ("value 0 in column 1 of s: 0 to 1", 0), ("; ".join(["rows of r: 0 to 1"] * 15 + ["rows of t: 0 to 1"]), 15),
            ("; ".join(["rows of r: 0 to 1"] * 17), None), ("; ".join(["rows of t: 0 to 1"] * 17), None),
        ):
            self.assert_fault(read_notes, (SCHEMA, text), BadNotes, {"index": index})
        # A schema with too many values is a fault of Statistics, behind those of the text.
        large = Schema(4, (1,))
        self.assert_fault(read_notes, (large, "nothing"), BadSchema)
        self.assert_fault(read_notes, (large, "rows of u: 0 to 9999"), BadSchema)
        self.assert_fault(read_notes, (large, "rows of v"), BadText, {"at": 8})
        self.assert_fault(read_notes, (large, None), BadText, {"at": None})

    def test_queries(self):
        for text, part in (
            ("show a from t(a)", "atoms"), ("show a from r(a)", "atoms"), ("show a from s(a, b)", "atoms"),
            ("show a from r(a, c)", "atoms"), ("show b from s(b)", "atoms"), ("show a from s(a), s(a)", "atoms"),
            ("show a from s(a), s(b), s(c), s(d), s(e)", "atoms"), ("show c from r(a, b)", "shown"), ("show a, a from r(a, b)", "shown"),
            ("show a from r(a, b) where c in {0}", "filters"), ("show a from r(a, b) where a in {2}", "filters"),
            ("show a from r(a, b) where a in {1, 0}", "filters"), ("show a from r(a, b) where a in {0, 0}", "filters"),
            ("show a from r(a, b) where b in {0} and a in {0}", "filters"), ("show a from r(a, b) where a in {} and a in {}", "filters"),
            ("show f from u(a) where f in {9}", "atoms"), ("show f from r(a, b) where f in {9}", "filters"),
        ):
            self.assert_fault(read_query, (SCHEMA, text), BadQuery, {"part": part})
        self.assert_fault(read_query, (SCHEMA, "show f from u(a) where f in {9"), BadText, {"at": 30})

    def test_tables_and_variables_of_any_schema(self):
        query = Query(Schema(6, (1, 1, 1, 1)), tuple((table, (table,)) for table in range(4)), ((3, (0, 5)),), (3,))
        self.assertEqual("show d from r(a), s(b), t(c), u(d) where d in {0, 5}", query_text(query))
        self.assertEqual(query, read_query(query.schema, query_text(query)))


class New(Case):

    def test_results_are_new(self):
        one, other = read_data(SCHEMA, data_text(DATA)), read_data(SCHEMA, data_text(DATA))
        self.assertIsNot(one, other)
        self.assertEqual(one, other)
        self.assertIsNot(read_notes(SCHEMA, "nothing"), read_notes(SCHEMA, "nothing"))
