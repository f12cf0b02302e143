"""The forms of texts as tables: for each state, the words that are allowed in it, and the states that they lead to."""

NUMBER = "a number"
TABLES = ("r", "s", "t", "u")
VARIABLES = ("a", "b", "c", "d", "e", "f")
WORDS = (
    "values", "widths", "has", "nothing", "rows", "value", "cell", "of", "in", "column", "to", "show", "from", "where", "and",
    "x", "showa", "rs", "g", "v",
)
MARKS = ("(", ")", "{", "}", ",", ":", ";")
VOCABULARY = WORDS + MARKS + TABLES + VARIABLES + ("0", "1", "2", "9", "10", "9999")


def each(words, state):
    return {word: state for word in words}


# In each form, the state 0 comes first, and a text may end in the states of "ends".
SCHEMA_FORM = {
    0: {"values": 1}, 1: {NUMBER: 2}, 2: {"widths": 3}, 3: {NUMBER: 4}, 4: {",": 3}, "ends": (4,),
}
OF = {"of": {"of": "table"}, "table": each(TABLES, "colon"), "colon": {":": "low"}, "low": {NUMBER: "to"}, "to": {"to": "high"}}
NOTE = {"rows": "of", "value": "which", "cell": "open"}
NOTES_FORM = {
    0: {"nothing": "none", **NOTE}, "again": NOTE, "none": {}, **OF, "which": {NUMBER: "in"}, "in": {"in": "column"},
    "column": {"column": "number"}, "number": {NUMBER: "of"}, "open": {"(": "item"}, "item": {NUMBER: "next"},
    "next": {",": "item", ")": "of"}, "high": {NUMBER: "end"}, "end": {";": "again"}, "ends": ("none", "end"),
}
QUERY_FORM = {
    0: {"show": 1}, 1: {"nothing": 3, **each(VARIABLES, 2)}, 2: {",": 4, "from": 5}, 3: {"from": 5}, 4: each(VARIABLES, 2),
    5: each(TABLES, 6), 6: {"(": 7}, 7: each(VARIABLES, 8), 8: {",": 7, ")": 9}, 9: {",": 5, "where": 10},
    10: each(VARIABLES, 11), 11: {"in": 12}, 12: {"{": 13}, 13: {NUMBER: 14, "}": 16}, 14: {",": 15, "}": 16}, 15: {NUMBER: 14},
    16: {"and": 10}, "ends": (9, 16),
}


def data_form(many):
    """The form of data with so many tables."""
    form = {0: {TABLES[0]: (0, 1)}, "ends": ((many - 1, "none"), (many - 1, "number"))}
    for table in range(many):
        more = {";": (table, "next")} if table < many - 1 else {}
        form.update({
            (table, 1): {":": (table, 2)}, (table, 2): {"nothing": (table, "none"), "(": (table, "item")},
            (table, "item"): {NUMBER: (table, "more")}, (table, "more"): {",": (table, "item"), ")": (table, "has")},
            (table, "has"): {"has": (table, "count")}, (table, "count"): {NUMBER: (table, "number")},
            (table, "number"): {",": (table, "cell"), **more}, (table, "cell"): {"(": (table, "item")},
            (table, "none"): more, (table, "next"): {TABLES[table + 1]: (table + 1, 1)} if more else {},
        })
    return form


def fault_of(form, words):
    """The index of the first word that is not allowed, the number of words if there are too few, or None."""
    state = 0
    for index, word in enumerate(words):
        after = form[state].get(NUMBER if word.isdigit() else word)
        if after is None:
            return index
        state = after
    return None if state in form["ends"] else len(words)


def joined(words, blanks):
    """A text of some words with blanks, told by a function, before, between and behind them, and their places."""
    text, places = blanks(), []
    for word in words:
        blank = blanks()
        touching = text and (text[-1].isalpha() and word.isalpha() or text[-1].isdigit() and word.isdigit())
        text += blank if blank or not touching else " "
        places.append(len(text))
        text += word
    text += blanks()
    return text, places + [len(text)]
