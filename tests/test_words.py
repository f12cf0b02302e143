"""[16] Words: how texts are split."""

from surelyplan.errors import BadText
from surelyplan.words import Word, split_words
from tests.checks import Case, odd_except
from tests.random_cases import chance_of

LETTERS, DIGITS, MARKS = "abcdefghijklmnopqrstuvwxyz", "0123456789", "(){},:;"


def split_by_hand(text):
    """The words of a text as triples, or the place of the first fault."""
    found = []
    for at, letter in enumerate(text):
        kind = "word" if letter in LETTERS else "number" if letter in DIGITS else "mark" if letter in MARKS else ""
        if kind == "" and letter not in (" ", "\n"):
            found.append(("fault", letter, at))
        elif kind:
            last = found[-1] if found else ("", "", 0)
            if kind != "mark" and last[0] == kind and last[2] + len(last[1]) == at:
                found[-1] = (kind, last[1] + letter, last[2])
            else:
                found.append((kind, letter, at))
    for kind, said, at in found:
        if kind == "fault" or kind == "number" and (len(said) > 4 or said != str(int(said))):
            return at
    return found


class Split(Case):

    def check(self, text):
        wanted = split_by_hand(text)
        if isinstance(wanted, int):
            self.assert_fault(split_words, (text,), BadText, {"at": wanted})
        else:
            words = split_words(text)
            self.assertEqual([Word] * len(wanted), [word.__class__ for word in words])
            self.assertEqual(wanted, [(word.kind, word.said, word.at) for word in words])

    def test_each_character(self):
        for code in list(range(0x180)) + [0x0660, 0x0966, 0x2003, 0x2028, 0xff10, 0xff41, 0x1d7d8, 0xd800, 0x1f600]:
            for text in (chr(code), "a" + chr(code), "1" + chr(code), " " + chr(code) + "b"):
                self.check(text)

    def test_random_texts(self):
        chance = chance_of(90)
        faults = 0
        for _ in range(3000):
            letters = chance.choice(("ab 01,", "a1 \n(){},:;", "0 12", "az09{}: ", "ab\n(12A", "a0\t."))
            text = "".join(chance.choice(letters) for _ in range(chance.randint(0, 12)))
            self.check(text)
            faults += isinstance(split_by_hand(text), int)
        self.assertTrue(600 < faults < 2400, faults)

    def test_numbers(self):
        for text, at in (
            ("0", None), ("9999", None), ("10000", 0), ("00", 0), ("01", 0), ("0 0", None), ("1 02", 2), ("a007", 1), ("(00", 1),
            ("12345 A", 0), ("A 12345", 0), ("12 34 56789", 6), ("0a0", None), ("1000a", None), ("1,01", 2), ("10000000000", 0),
        ):
            if at is None:
                self.assertEqual("".join(text.split()), "".join(word.said for word in split_words(text)))
            else:
                self.assert_fault(split_words, (text,), BadText, {"at": at})

    def test_words_and_numbers_directly_behind_one_another(self):
        told = [("word", "values", 0), ("number", "3", 6), ("word", "widths", 7), ("number", "2", 13), ("mark", ",", 14)]
        self.assertEqual(told, [(word.kind, word.said, word.at) for word in split_words("values3widths2,")])
        self.assertEqual([("word", "showa", 0)], [(word.kind, word.said, word.at) for word in split_words("showa")])
        self.assertEqual(["((", "))"], ["".join(word.said for word in split_words(text)) for text in ("( (", "))")])

    def test_nothing(self):
        for text in ("", " ", "\n", " \n \n"):
            self.assertEqual([], split_words(text))

    def test_what_is_not_a_text(self):
        values = [value for value in odd_except() if not isinstance(value, str)] + [b"show", ["show"], bytearray(b"a")]
        self.assert_refused(split_words, ("a",), 0, values, BadText, at=None)

    def test_long_texts(self):
        many = 200000
        self.assertEqual(["a" * many], [word.said for word in split_words("a" * many)])
        self.assertEqual(many, len(split_words("(" * many)))
        self.assertEqual(many, len(split_words("1," * (many // 2))))
        self.assertEqual([], split_words(" \n" * many))
        self.assert_fault(split_words, ("1" * many,), BadText, {"at": 0})
        self.assert_fault(split_words, (" " * many + "A" * many,), BadText, {"at": many})


class Words(Case):

    def test_attributes_and_equality(self):
        word = Word("word", "show", 3)
        self.assertEqual(("word", "show", 3), (word.kind, word.said, word.at))
        different = (Word("mark", "show", 3), Word("word", "from", 3), Word("word", "show", 0))
        self.assert_equality((word, Word("word", "show", 3)), different)

    def test_results_are_new(self):
        def spoil(words):
            words[0].at = 9
            words.pop()
        self.assert_new_each_time(lambda: split_words("show a"), spoil)
