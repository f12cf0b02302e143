"""Texts of schemas, data, notes and queries: how they are written, and how they are read."""

from surelyplan.errors import BadData, BadText
from surelyplan.plain import is_between
from surelyplan.queries import Query, need_query
from surelyplan.schemas import MOST_COUNT, Data, Schema, cell_place, is_cell, need_data, need_schema
from surelyplan.statistics import Statistics, need_statistics
from surelyplan.words import split_words

TABLES = ("r", "s", "t", "u")
VARIABLES = ("a", "b", "c", "d", "e", "f")
NOTES = ("rows", "value", "cell")


class Reader:
    """The words of a text, of which some have been read; the next one is refused if it does not fit."""

    def __init__(self, text):
        self.words = split_words(text)
        self.end = len(text)
        self.done = 0

    def refuse_unless(self, fits):
        """Raise an error at the place of the next word, or at the end of the text, unless a condition holds."""
        if not fits:
            place = self.words[self.done].at if self.done < len(self.words) else self.end
            raise BadText(place)

    def is_next(self, said):
        """Return whether the next word is this one."""
        return self.done < len(self.words) and self.words[self.done].said == said

    def skip(self, said):
        """Read the next word if it is this one, and return whether it is."""
        if not self.is_next(said):
            return False
        self.done += 1
        return True

    def expect(self, said):
        """Read the next word, which must be this one."""
        self.refuse_unless(self.skip(said))

    def next_of(self, names):
        """Read the next word, which must be one of some names, and return its index among them."""
        self.refuse_unless(any([self.is_next(name) for name in names]))
        self.done += 1
        return names.index(self.words[self.done - 1].said)

    def next_number(self):
        """Read the next number, and return it."""
        self.refuse_unless(self.done < len(self.words) and self.words[self.done].kind == "number")
        self.done += 1
        return int(self.words[self.done - 1].said)

    def need_end(self):
        """Raise an error unless all words have been read."""
        self.refuse_unless(self.done == len(self.words))


def schema_text(schema):
    """Return the text of a schema."""
    need_schema(schema)
    return f"values {schema.size} widths {_numbers_text(schema.widths)}"


def data_text(data):
    """Return the text of data."""
    need_data(data)
    return "; ".join([f"{TABLES[table]}: {_table_text(data, table)}" for table in range(len(data))])


def notes_text(stats):
    """Return the text of notes."""
    need_statistics(stats)
    return "; ".join([_note_text(note) for note in stats.notes]) if stats.notes != () else "nothing"


def query_text(query):
    """Return the text of a query."""
    need_query(query)
    shown = _names_text(query.shown) if query.shown != () else "nothing"
    atoms = ", ".join([f"{TABLES[table]}({_names_text(variables)})" for table, variables in query.atoms])
    if query.filters == ():
        return f"show {shown} from {atoms}"
    filters = " and ".join([_filter_text(variable, values) for variable, values in query.filters])
    return f"show {shown} from {atoms} where {filters}"


def read_schema(text):
    """Return the schema of a text."""
    reader = Reader(text)
    reader.expect("values")
    size = reader.next_number()
    reader.expect("widths")
    widths = _read_numbers(reader)
    reader.need_end()
    return Schema(size, tuple(widths))


def read_data(schema, text):
    """Return the data of a text."""
    need_schema(schema)
    reader = Reader(text)
    told = []
    for table in range(len(schema)):
        if table > 0:
            reader.expect(";")
        reader.expect(TABLES[table])
        reader.expect(":")
        told.append(_read_rows(reader))
    reader.need_end()
    return Data(schema, [_counts_of(schema, table, rows) for table, rows in enumerate(told)])


def read_notes(schema, text):
    """Return the statistics of a text."""
    need_schema(schema)
    reader = Reader(text)
    notes = []
    if not reader.skip("nothing"):
        notes.append(_read_note(reader))
        while reader.skip(";"):
            notes.append(_read_note(reader))
    reader.need_end()
    return Statistics(schema, notes)


def read_query(schema, text):
    """Return the query of a text."""
    need_schema(schema)
    reader = Reader(text)
    reader.expect("show")
    shown = [] if reader.skip("nothing") else _read_variables(reader)
    reader.expect("from")
    atoms = [_read_atom(reader)]
    while reader.skip(","):
        atoms.append(_read_atom(reader))
    filters = []
    if reader.skip("where"):
        filters.append(_read_filter(reader))
        while reader.skip("and"):
            filters.append(_read_filter(reader))
    reader.need_end()
    return Query(schema, tuple(atoms), tuple(filters), tuple(shown))


def _numbers_text(numbers):
    return ", ".join([str(number) for number in numbers])


def _names_text(variables):
    return ", ".join([VARIABLES[variable] for variable in variables])


def _table_text(data, table):
    rows = [f"({_numbers_text(cell)}) has {count}" for cell, count in data.filled(table)]
    return ", ".join(rows) if rows != [] else "nothing"


def _note_text(note):
    ends = f"of {TABLES[note[1]]}: {note[-2]} to {note[-1]}"
    if note[0] == "rows":
        return f"rows {ends}"
    if note[0] == "value":
        return f"value {note[3]} in column {note[2]} {ends}"
    return f"cell ({_numbers_text(note[2])}) {ends}"


def _filter_text(variable, values):
    return VARIABLES[variable] + " in {" + _numbers_text(values) + "}"


def _read_numbers(reader):
    numbers = [reader.next_number()]
    while reader.skip(","):
        numbers.append(reader.next_number())
    return numbers


def _read_variables(reader):
    variables = [reader.next_of(VARIABLES)]
    while reader.skip(","):
        variables.append(reader.next_of(VARIABLES))
    return variables


def _read_cell(reader):
    reader.expect("(")
    cell = _read_numbers(reader)
    reader.expect(")")
    return tuple(cell)


def _read_rows(reader):
    """Read the cells of a table, and return the list of pairs of a cell and its number."""
    if reader.skip("nothing"):
        return []
    rows = [_read_row(reader)]
    while reader.skip(","):
        rows.append(_read_row(reader))
    return rows


def _read_row(reader):
    cell = _read_cell(reader)
    reader.expect("has")
    return cell, reader.next_number()


def _counts_of(schema, table, rows):
    """Return the list of the counts of a table that has rows in some cells."""
    counts = [0] * len(schema.cells(table))
    for cell, count in rows:
        if not is_cell(schema, table, cell) or not is_between(count, 1, MOST_COUNT):
            raise BadData(table)
        place = cell_place(schema.size, cell)
        if counts[place] > 0:
            raise BadData(table)
        counts[place] = count
    return counts


def _read_note(reader):
    word = NOTES[reader.next_of(NOTES)]
    about = ()
    if word == "value":
        value = reader.next_number()
        reader.expect("in")
        reader.expect("column")
        about = (reader.next_number(), value)
    if word == "cell":
        about = (_read_cell(reader),)
    reader.expect("of")
    table = reader.next_of(TABLES)
    reader.expect(":")
    low = reader.next_number()
    reader.expect("to")
    return (word, table) + about + (low, reader.next_number())


def _read_atom(reader):
    table = reader.next_of(TABLES)
    reader.expect("(")
    variables = _read_variables(reader)
    reader.expect(")")
    return table, tuple(variables)


def _read_filter(reader):
    variable = reader.next_of(VARIABLES)
    reader.expect("in")
    reader.expect("{")
    values = [] if reader.is_next("}") else _read_numbers(reader)
    reader.expect("}")
    return variable, tuple(values)
