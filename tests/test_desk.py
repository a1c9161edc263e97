"""Points 91 and 92: a desk, and the interface's row desk.py."""

import inspect
import re
import unittest
from random import Random

import samples
from turnsigns import desk as desk_file
from turnsigns.counts import number_of
from turnsigns.desk import Desk
from turnsigns.errors import BadNote, NoStep, NotAlike, NoTable, SignError
from turnsigns.notes import table_read, table_text
from turnsigns.orders import both_above, both_below, is_below, stepped, steps_from_lowest, steps_of
from turnsigns.turned import turned
from turnsigns.weights import minus_many, turned_pairs

NAME = "[a-z]{1,8}"
TURN = "|".join(samples.TURNS)
FORMS = (
    rf"(table) ({NAME}) ([-+0/]+)",
    rf"(turn) ({NAME}) ({TURN}) ({NAME})",
    rf"(up) ({NAME}) ([0-9]) ([0-9]) ({NAME})",
    rf"(join|meet) ({NAME}) ({NAME}) ({NAME})",
    r"(kept)",
    rf"(show|number|minus|pairs|steps) ({NAME})",
    rf"(below) ({NAME}) ({NAME})",
)
NUMBERS = samples.plain_numbers()
TWO_WORDS = ("show", "number", "minus", "pairs", "steps")


class PlainDesk:
    """What the document says of a desk, by the plain ways of telling; a refusal is told as its name."""

    def __init__(self):
        self.tables = {}

    def say(self, line):
        found = [re.fullmatch(form, line, re.ASCII) for form in FORMS]
        words = [match.groups() for match in found if match]
        if not words or (words[0][0] == "table" and words[0][2] not in samples.TEXTS):
            return "BadNote"
        word, *rest = words[0]
        if word == "kept":
            return " ".join(sorted(self.tables))
        if word == "table":
            return self.keep(rest[0], samples.TEXTS[rest[1]])
        names = rest[:2] if word in ("join", "meet", "below") else rest[:1]
        if any(name not in self.tables for name in names):
            return "NoTable"
        return self.asked(word, [self.tables[name] for name in names], rest)

    def keep(self, name, table):
        self.tables[name] = table
        return "ok"

    def asked(self, word, tables, rest):
        if len({len(table) for table in tables}) > 1:
            return "NotAlike"
        one, other = tables[0], tables[-1]
        if word == "turn":
            return self.keep(rest[2], samples.plain_turned(one, rest[1]))
        if word == "up":
            behind = samples.plain_steps(one).get((int(rest[1]), int(rest[2])))
            return "NoStep" if behind is None else self.keep(rest[3], behind)
        if word == "join":
            return self.keep(rest[2], samples.plain_both_above(one, other))
        if word == "meet":
            return self.keep(rest[2], samples.plain_both_below(one, other))
        if word == "below":
            return "yes" if samples.plain_is_below(one, other) else "no"
        if word == "show":
            return samples.plain_text(one)
        numbers = {"number": NUMBERS.get, "minus": samples.plain_minus, "pairs": samples.plain_pairs}
        return str(numbers.get(word, samples.plain_steps_up)(one))


def answer(desk, line):
    """What the desk answers, or the name of its refusal."""
    refused = None
    try:
        told = desk.say(line)
    except SignError as error:
        refused = type(error).__name__
    return told if refused is None else refused


def all_of(desk):
    """All that a desk can be asked of what it keeps."""
    names = desk.say("kept").split()
    return [(name, desk.say(f"show {name}")) for name in names]


def laid_desk():
    """A desk with some tables: low and high of side 2, cross of side 3, one of side 1, one of side 6."""
    desk = Desk()
    desk.say("table low +0/0+")
    desk.say("table high 0+/+0")
    desk.say("table cross 0+0/+-+/0+0")
    desk.say("table one +")
    desk.say("table sixwides " + samples.plain_text(samples.few_tables(6)[-1]))
    return desk


GOOD_LINES = ["table n 0+0/+-+/0+0", "table low +", "turn cross left n", "turn low stay low", "up low 1 1 n"]
GOOD_LINES += ["up cross 2 1 cross", "join low high n", "meet low high low", "kept", "show cross", "number cross"]
GOOD_LINES += ["minus cross", "pairs cross", "steps cross", "below low high", "join low low low", "show sixwides"]


def wrong_lines():
    """Lines like good ones with one thing otherwise, which no form of the document fits."""
    told = ["", " ", "  ", "Kept", "KEPT", "kep", "keptt", "kept kept", "kept low", "kept ", " kept", "kept\n", "none"]
    told += ["table", "turn", "up", "join", "meet", "show", "number", "minus", "pairs", "steps", "below", "low"]
    for line in GOOD_LINES:
        words = line.split(" ")
        told.extend([line + " ", " " + line, line + "\n", line + "\t", line.upper(), line.title(), line + "/", "/" + line])
        told.extend([line.replace(" ", "  ", 1), line.replace(" ", "\t"), line.replace(" ", "\n", 1), line + " low"])
        told.extend(" ".join(words[:at] + words[at + 1 :]) for at in range(len(words)))
        told.extend(" ".join(words[:at] + [words[at]] + words[at:]) for at in range(len(words)))
        for at in range(len(words)):
            for other in WRONG_WORDS:
                told.append(" ".join(words[:at] + [other] + words[at + 1 :]))
    return [line for line in dict.fromkeys(told) if PlainDesk().say(line) == "BadNote"]


WRONG_WORDS = ["", "A", "low1", "lo-w", "l_w", "lOw", "abcdefghi", "abcdefghijklmnop", "0", "10", "-1", "+1", "01", "x0"]
WRONG_WORDS += ["1.", "left", "Left", "lef", "leftt", "+", "0+0", "0+0/+-+/0+", "0+0/+-+/0+00", "0+0/++0/0+0", "~", "+/"]
WRONG_WORDS += ["\u00e9", "\u00df", "\u0661", "\u00b2", "\u0131", "low\n", "1\n", "left\n", "low.", "[low]", "1,1"]
WRONG_LINES = wrong_lines()


class Making(unittest.TestCase):
    def test_table(self):
        desk = Desk()
        self.assertEqual(desk.say("table a 0+0/+-+/0+0"), "ok")
        self.assertEqual(desk.say("show a"), "0+0/+-+/0+0")

    def test_turn(self):
        desk = Desk()
        desk.say("table a 0+0/00+/+00")
        self.assertEqual(desk.say("turn a left b"), "ok")
        self.assertEqual(desk.say("show b"), "0+0/+00/00+")
        self.assertEqual(desk.say("show a"), "0+0/00+/+00")
        self.assertEqual(desk.say("turn a right a"), "ok")
        self.assertEqual(desk.say("show a"), "+00/00+/0+0")

    def test_up(self):
        desk = Desk()
        desk.say("table a 0+0/+-+/0+0")
        self.assertEqual(desk.say("up a 1 2 b"), "ok")
        self.assertEqual(desk.say("show b"), "00+/+00/0+0")
        self.assertEqual(desk.say("up a 2 1 b"), "ok")
        self.assertEqual(desk.say("show b"), "0+0/00+/+00")

    def test_join_is_the_lowest_above_and_meet_the_highest_below(self):
        desk = Desk()
        desk.say("table a +00/00+/0+0")
        desk.say("table b 0+0/+00/00+")
        self.assertEqual(desk.say("join a b c"), "ok")
        self.assertEqual(desk.say("show c"), "0+0/+-+/0+0")
        self.assertEqual(desk.say("meet a b c"), "ok")
        self.assertEqual(desk.say("show c"), "+00/0+0/00+")

    def test_a_name_is_given_to_another_table(self):
        desk = Desk()
        for text in ("+", "0+/+0", "0+0/+-+/0+0", "+"):
            self.assertEqual(desk.say(f"table same {text}"), "ok")
            self.assertEqual(desk.say("show same"), text)
            self.assertEqual(desk.say("kept"), "same")

    def test_names_of_one_to_eight_letters(self):
        desk = Desk()
        names = ["a", "z", "az", "zzz", "abcd", "qwert", "asdfgh", "yxcvbnm", "abcdefgh", "zyxwvuts"]
        names += ["kept", "table", "left", "ok", "show"]
        for name in names:
            self.assertEqual(desk.say(f"table {name} +"), "ok")
            self.assertEqual(desk.say(f"show {name}"), "+")
            self.assertEqual(desk.say(f"turn {name} half {name}"), "ok")
        self.assertEqual(desk.say("kept"), " ".join(sorted(names)))


class Telling(unittest.TestCase):
    def test_kept(self):
        desk = Desk()
        self.assertEqual(desk.say("kept"), "")
        desk.say("table b +")
        self.assertEqual(desk.say("kept"), "b")
        for name in ("ba", "a", "zz", "aa", "z", "b"):
            desk.say(f"table {name} +")
        self.assertEqual(desk.say("kept"), "a aa b ba z zz")

    def test_figures(self):
        desk = laid_desk()
        wanted = {"number cross": "3", "minus cross": "1", "pairs cross": "2", "steps cross": "2"}
        wanted.update({"number one": "0", "minus one": "0", "pairs one": "0", "steps one": "0"})
        wanted.update({"number low": "1", "number high": "0", "pairs high": "1", "steps high": "1"})
        for line, told in wanted.items():
            self.assertEqual(desk.say(line), told)
        desk.say("table last +00000/0+0000/00+000/000+00/0000+0/00000+")
        self.assertEqual(desk.say("number last"), "7435")

    def test_below(self):
        desk = laid_desk()
        self.assertEqual(desk.say("below low high"), "yes")
        self.assertEqual(desk.say("below high low"), "no")
        self.assertEqual(desk.say("below low low"), "yes")

    def test_figures_stand_without_a_nought_ahead(self):
        desk = Desk()
        for table in samples.ALL_TABLES[:481] + samples.drawn_tables(6, 200):
            desk.say(f"table a {samples.plain_text(table)}")
            for word in ("number", "minus", "pairs", "steps"):
                self.assertRegex(desk.say(f"{word} a"), r"\A(0|[1-9][0-9]*)\Z")


class ByTheFunctions(unittest.TestCase):
    def test_each_line_tells_what_the_functions_tell(self):
        tables = samples.SOME_TABLES + samples.drawn_tables(5, 40) + samples.drawn_tables(6, 40)
        desk = Desk()
        for table in tables:
            self.assertEqual(desk.say(f"table a {table_text(table)}"), "ok")
            self.assertEqual(desk.say("show a"), table_text(table))
            self.assertEqual(desk.say("number a"), str(number_of(table)))
            self.assertEqual(desk.say("minus a"), str(minus_many(table)))
            self.assertEqual(desk.say("pairs a"), str(turned_pairs(table)))
            self.assertEqual(desk.say("steps a"), str(steps_from_lowest(table)))
            for turn in samples.TURNS:
                self.assertEqual(desk.say(f"turn a {turn} b"), "ok")
                self.assertEqual(table_read(desk.say("show b")), turned(table, turn))
            for row, column in steps_of(table):
                self.assertEqual(desk.say(f"up a {row} {column} b"), "ok")
                self.assertEqual(table_read(desk.say("show b")), stepped(table, (row, column)))

    def test_lines_of_two_tables(self):
        desk = Desk()
        for side in samples.SIDES:
            tables = samples.drawn_tables(side, 8)
            for one, other in [(one, other) for one in tables for other in tables]:
                desk.say(f"table a {table_text(one)}")
                desk.say(f"table b {table_text(other)}")
                self.assertEqual(desk.say("below a b"), "yes" if is_below(one, other) else "no")
                self.assertEqual(desk.say("join a b c"), "ok")
                self.assertEqual(table_read(desk.say("show c")), both_above(one, other))
                self.assertEqual(desk.say("meet a b c"), "ok")
                self.assertEqual(table_read(desk.say("show c")), both_below(one, other))


def drawn_line(chance, names):
    """A line, most often a good one."""
    name = lambda: chance.choice(names)
    table = chance.choice(samples.TABLES[chance.choice((1, 2, 2, 3, 3, 3, 4, 5, 6))])
    figure = lambda: chance.choice("0112233459")
    lines = (
        f"table {name()} {samples.plain_text(table)}",
        f"turn {name()} {chance.choice(samples.TURNS)} {name()}",
        f"up {name()} {figure()} {figure()} {name()}",
        f"join {name()} {name()} {name()}",
        f"meet {name()} {name()} {name()}",
        "kept",
        f"below {name()} {name()}",
        f"{chance.choice(TWO_WORDS)} {name()}",
        chance.choice(WRONG_LINES),
    )
    return chance.choice(lines)


class AgainstAPlainDesk(unittest.TestCase):
    def test_long_talks(self):
        seen = set()
        for seed in range(12):
            chance = Random(seed)
            names = ["a", "b", "c", "ab", "zzzzzzzz", "kept"][: 2 + seed % 5]
            desk, plain = Desk(), PlainDesk()
            for _ in range(250):
                line = drawn_line(chance, names)
                wanted = plain.say(line)
                self.assertEqual(answer(desk, line), wanted, line)
                seen.add(wanted)
            wanted = [(name, samples.plain_text(table)) for name, table in sorted(plain.tables.items())]
            self.assertEqual(all_of(desk), wanted)
        self.assertLessEqual({"ok", "yes", "no", "BadNote", "NoTable", "NotAlike", "NoStep", "0"}, seen)


class Refused(unittest.TestCase):
    def test_what_is_no_line(self):
        self.assertGreater(len(WRONG_LINES), 1000)
        desk = laid_desk()
        before = all_of(desk)
        for line in WRONG_LINES:
            self.assertIs(type(samples.refusal(desk.say, line)), BadNote, line)
        self.assertEqual(all_of(desk), before)

    def test_things_that_are_no_lines(self):
        desk = laid_desk()
        before = all_of(desk)
        things = [["kept"], ("kept",), {"kept": 1}, b"kept", ["show", "low"], ("show", "low"), None, True, 0]
        for thing in things + samples.STRANGE + samples.SOME_TABLES:
            self.assertIs(type(samples.refusal(desk.say, thing)), BadNote, thing)
        self.assertEqual(all_of(desk), before)

    def test_a_name_by_which_nothing_is_kept(self):
        desk = laid_desk()
        lines = [f"{word} none" for word in TWO_WORDS] + ["turn none left n", "up none 1 1 n", "up none 0 0 low"]
        lines += ["join none low n", "join low none n", "meet none low n", "meet low none n", "meet none none none"]
        lines += ["below none low", "below low none", "below cross none", "show n", "show lo", "show loww"]
        before = all_of(desk)
        for line in lines:
            self.assertIs(type(samples.refusal(desk.say, line)), NoTable, line)
        self.assertEqual(all_of(desk), before)
        for line in lines:
            self.assertIs(type(samples.refusal(Desk().say, line)), NoTable, line)

    def test_tables_of_unlike_sides(self):
        desk = laid_desk()
        before = all_of(desk)
        for line in ("join low cross n", "meet cross low n", "join one sixwides one", "below low one", "below one low"):
            self.assertIs(type(samples.refusal(desk.say, line)), NotAlike, line)
        self.assertEqual(all_of(desk), before)

    def test_places_at_which_no_step_goes_up(self):
        desk = laid_desk()
        before = all_of(desk)
        lines = ["up high 1 1 n", "up one 1 1 n", "up one 0 0 n", "up cross 1 1 n", "up cross 2 2 cross", "up low 0 1 n"]
        for line in lines + ["up low 1 0 n", "up low 2 2 n", "up low 9 9 low", "up cross 3 3 n"]:
            self.assertIs(type(samples.refusal(desk.say, line)), NoStep, line)
        self.assertEqual(all_of(desk), before)

    def test_two_wrong_ones_at_once(self):
        desk = laid_desk()
        before = all_of(desk)
        no_lines = ["turn none up n", "turn none left N", "up none 10 1 n", "up none 1 1 N", "join none none N"]
        no_lines += ["join low cross N", "up low 0 0 N", "up high 1 1 abcdefghi", "below none Low", "below low cross x"]
        no_lines += ["table N +0", "show none none", "meet low cross n n", "up one 1 x n", "turn none Left none"]
        for line in no_lines:
            self.assertIs(type(samples.refusal(desk.say, line)), BadNote, line)
        for line in ("join none cross n", "meet cross none n", "below none one", "up none 9 9 n"):
            self.assertIs(type(samples.refusal(desk.say, line)), NoTable, line)
        self.assertEqual(all_of(desk), before)

    def test_a_refused_line_keeps_nothing_by_its_new_name(self):
        desk = laid_desk()
        for line in ("table n +0", "turn none left n", "up high 1 1 n", "join low cross n", "meet none none n"):
            self.assertIsNotNone(samples.refusal(desk.say, line))
            self.assertIs(type(samples.refusal(desk.say, "show n")), NoTable)


class Desks(unittest.TestCase):
    def test_two_desks_have_nothing_in_common(self):
        one, other = Desk(), Desk()
        one.say("table a +")
        self.assertEqual(other.say("kept"), "")
        other.say("table a 0+/+0")
        other.say("table b +0/0+")
        self.assertEqual(all_of(one), [("a", "+")])
        self.assertEqual(all_of(other), [("a", "0+/+0"), ("b", "+0/0+")])
        self.assertIs(type(samples.refusal(one.say, "show b")), NoTable)
        one.say("table b +")
        self.assertEqual(other.say("show b"), "+0/0+")
        self.assertEqual(Desk().say("kept"), "")

    def test_two_desks_talked_to_by_turns(self):
        chance = Random(91)
        desks = [(Desk(), PlainDesk()), (Desk(), PlainDesk())]
        for at in range(400):
            desk, plain = desks[at % 2]
            line = drawn_line(chance, ["a", "b", "c"])
            self.assertEqual(answer(desk, line), plain.say(line), line)

    def test_asked_again_the_same_is_told(self):
        desk = laid_desk()
        lines = ["kept", "below low high"] + [f"{word} cross" for word in TWO_WORDS]
        first = [desk.say(line) for line in lines]
        self.assertEqual([desk.say(line) for line in lines], first)


class Interface(unittest.TestCase):
    def test_names_and_arguments(self):
        self.assertEqual(list(inspect.signature(desk_file.Desk).parameters), [])
        self.assertEqual(list(inspect.signature(desk_file.Desk().say).parameters), ["line"])

    def test_it_answers_with_texts(self):
        for line in GOOD_LINES:
            self.assertIs(type(laid_desk().say(line)), str, line)

    def test_refusals_are_sign_errors_and_value_errors(self):
        desk = laid_desk()
        for line in (None, "", "show none", "join low cross n", "up low 0 0 n", "turn low up n", "table n +0"):
            told = samples.refusal(desk.say, line)
            self.assertIsInstance(told, SignError)
            self.assertIsInstance(told, ValueError)
            self.assertIsInstance(told.args[0], str)


if __name__ == "__main__":
    unittest.main()
