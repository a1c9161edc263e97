"""Point 90: tables written and read, and the interface's row notes.py."""

import inspect
import unittest

import samples
from turnsigns import notes
from turnsigns.errors import BadNote, NoTable, SignError
from turnsigns.notes import table_read, table_text


def wrong_texts():
    """Texts like those of some tables, of which no table is written."""
    told = ["", " ", "/", "0", "-", "1", "++", "+/+", "+ ", " +", "+/", "/+", "+0/0+/", "0+0/+-+/0+0 ", "+0 /0+"]
    told += ["+0//0+", "+0 0+", "+0,0+", "(1,)", "((1,),)", "+0/0", "+/0+", "+0/0+/00", "00/00", "+-/-+", "~", "\\"]
    told += [samples.plain_text(samples.unit_table(7)), "+" * 80, "0+0/+-+/0+0" * 7, "0+0/+-+/0+0/", "O+O/+-+/O+O"]
    told += ["\uff0b", "+\n", "\u2212", "0+0/+\u2212+/0+0"]
    for table in samples.SOME_TABLES:
        told.extend(samples.otherwise_text(samples.plain_text(table)))
    return [text for text in told if text not in samples.TEXTS]


WRONG_TEXTS = wrong_texts()


class TableText(unittest.TestCase):
    def test_written_ones(self):
        self.assertEqual(table_text(samples.CROSS), "0+0/+-+/0+0")
        self.assertEqual(table_text(((1,),)), "+")
        self.assertEqual(table_text(((1, 0), (0, 1))), "+0/0+")
        self.assertEqual(table_text(samples.unit_table(6)), "+00000/0+0000/00+000/000+00/0000+0/00000+")

    def test_each_table(self):
        for table in samples.ALL_TABLES:
            self.assertEqual(table_text(table), samples.plain_text(table))
            self.assertIs(type(table_text(table)), str)

    def test_what_is_no_table_is_refused(self):
        for thing in samples.NOT_TABLES:
            self.assertIs(type(samples.refusal(table_text, thing)), NoTable, thing)


class TableRead(unittest.TestCase):
    def test_written_ones(self):
        self.assertEqual(table_read("0+0/+-+/0+0"), samples.CROSS)
        self.assertEqual(table_read("+"), ((1,),))
        self.assertEqual(table_read("0+/+0"), ((0, 1), (1, 0)))

    def test_each_table(self):
        for text, table in samples.TEXTS.items():
            self.assertEqual(repr(table_read(text)), repr(table))

    def test_other_texts_are_refused(self):
        self.assertGreater(len(WRONG_TEXTS), 5000)
        for text in WRONG_TEXTS:
            self.assertIs(type(samples.refusal(table_read, text)), BadNote, text)

    def test_a_text_with_one_sign_otherwise_may_write_another_table(self):
        for text in samples.otherwise_text("+0/0+"):
            if text in samples.TEXTS:
                self.assertEqual(table_read(text), samples.TEXTS[text])

    def test_what_is_no_text_is_refused(self):
        wrong = [samples.CROSS, list("+"), ("+",), b"+", ["0+0", "+-+", "0+0"], ("0+0", "+-+", "0+0"), {"+": 1}]
        for thing in wrong + samples.STRANGE + samples.SOME_TABLES:
            if not isinstance(thing, str):
                self.assertIs(type(samples.refusal(table_read, thing)), BadNote, thing)


class Interface(unittest.TestCase):
    def test_names_and_arguments(self):
        self.assertEqual(list(inspect.signature(notes.table_text).parameters), ["table"])
        self.assertEqual(list(inspect.signature(notes.table_read).parameters), ["text"])

    def test_refusals_are_sign_errors_and_value_errors(self):
        for told in (samples.refusal(table_text, None), samples.refusal(table_read, None)):
            self.assertIsInstance(told, SignError)
            self.assertIsInstance(told, ValueError)
            self.assertIsInstance(told.args[0], str)


if __name__ == "__main__":
    unittest.main()
