import random
import re
import unittest
from math import gcd

from alwaysagree.agreeing import days_needed
from alwaysagree.console import Console
from alwaysagree.councils import Council
from alwaysagree.errors import InvalidText, InvalidThoughts, NotACouncil
from alwaysagree.sessions import Session
from alwaysagree.voicing import voices
from tests.kinds import all_kinds
from tests.talks import BAD, DUO, GOOD, GREAT, ONE, SWAP, drawn_thoughts, named_councils

FIRST = ((0, 1), (6, 1), (12, 1))
QUESTIONS = ("text", "thoughts", "spread", "days", "sure", "needed", "voices")
HELP = "text thoughts spread days sure needed voices day think undo help"
WHOLE = "(?:0|[1-9][0-9]*)"
DAY = re.compile(f"day ({WHOLE})")
THINK = re.compile(f"think ([a-z][a-z0-9]{{0,7}}) ({WHOLE}|-[1-9][0-9]*)/({WHOLE})")
# Lines that are none of those of the document.
OTHER_LINES = [
    "", " ", "\n", "what", "day", "day ", "day  0", " day 0", "day 0 ", "day 0 0", "day 00", "day 01", "day -0", "day -1",
    "day +1", "day 0.0", "day 0x0", "day 1_0", "day a", "day0", "Day 0", "DAY 0", "day 0\n", "\nday 0", "day\n0", "days 0",
    "days ", "undo ", " undo", "undo undo", "undo 1", "undo\n", "Undo", "help ", " help", "help help", "help day", "help\n",
    "text ", " text", "text text", "text\n", "Text", "thoughts ", "thoughts ann", "thought", "spread 0", "sure?", "sure ",
    "needed 2", "voices bob", "voice", "text thoughts", "thoughts\nspread", "think", "think ", "think ann", "think ann ",
    "think ann 1", "think ann 1/", "think ann /2", "think ann /", "think ann 1/2/3", "think ann 1//2", "think ann 1 / 2",
    "think ann 1/ 2", "think ann 1 /2", "think ann 1/2 ", " think ann 1/2", "think  ann 1/2", "think ann  1/2",
    "think ann -0/1", "think ann +1/2", "think ann 1/-2", "think ann -1/-2", "think ann 1/+2", "think ann --1/2",
    "think ann - 1/2", "think ann -/2", "think ann 01/2", "think ann 1/02", "think ann -01/2", "think ann 00/1",
    "think ann 0/01", "think ann 0/00", "think ann 1.0/2", "think ann 1_0/3", "think ann x/2", "think ann 1/x",
    "think ann 1/2\n", "think ann 1/2 bob", "think ann bob 1/2", "think 1/2", "think 1/2 ann", "think Ann 1/2",
    "think 0nn 1/2", "think an-n 1/2", "think abcdefghi 1/2", "think ann,bob 1/2", "Think ann 1/2", "think ann 1|2",
    "done", "refused", "yes", "no", "-", "session", "trial", "change", "think\nann 1/2", "said", "told",
    "day \u00b2", "day \u0661", "think ann \u00b2/3", "think ann 1/\u0663", "\u00e4", "think \u00e4nn 1/2",
]


def fractions(thoughts):
    return " ".join([f"{top}/{bottom}" for top, bottom in thoughts])


def expected(session, line):
    """What the document says that the answer is, by a session that does it."""
    answers = {
        "text": lambda: str(session.council),
        "thoughts": lambda: fractions(session.thoughts),
        "spread": lambda: fractions([session.spread()]),
        "days": lambda: str(session.days),
        "sure": lambda: "yes" if session.sure() else "no",
        "needed": lambda: str(days_needed(session.council)) if session.sure() else "-",
        "voices": lambda: " ".join(voices(session.council)) or "-",
        "help": lambda: HELP,
    }
    if line in answers:
        return answers[line]()
    day, think = DAY.fullmatch(line), THINK.fullmatch(line)
    if day:
        if int(day[1]) >= len(session.council.ways):
            return "refused"
        session.day(int(day[1]))
        return "done"
    if think:
        top, bottom = int(think[2]), int(think[3])
        if think[1] not in session.council.minds or bottom == 0 or gcd(top, bottom) != 1:
            return "refused"
        session.think(think[1], (top, bottom))
        return "done"
    if line == "undo":
        if session.changes == 0:
            return "refused"
        session.undo()
        return "done"
    return "what"


def drawn_line(draw, council):
    """A line of any kind, most often one of those of the document."""
    mind = draw.choice(council.minds + ("zed",))
    top, bottom = drawn_thoughts(draw, 1)[0]
    return draw.choice((
        draw.choice(QUESTIONS), draw.choice(QUESTIONS), f"day {draw.randrange(len(council.ways) + 1)}",
        f"day {draw.randrange(len(council.ways))}", f"think {mind} {top}/{bottom}",
        f"think {mind} {draw.randrange(-4, 5)}/{draw.randrange(5)}", "undo", "help", draw.choice(OTHER_LINES)))


def seen(console):
    """All that a console tells of its session."""
    return [console.say(line) for line in QUESTIONS]


class TestAnswers(unittest.TestCase):
    def test_those_of_a_session_and_of_the_functions(self):
        counts = {"done": 0, "refused": 0, "what": 0}
        for seed, council in enumerate(named_councils() + [GREAT]):
            draw = random.Random(seed)
            thoughts = drawn_thoughts(draw, len(council))
            console, session, told = Console(council, thoughts), Session(council, thoughts), []
            for turn in range(80):
                line = drawn_line(draw, council)
                with self.subTest(line=line):
                    answer = console.say(line)
                    self.assertIs(answer.__class__, str)
                    self.assertEqual(answer, expected(session, line))
                    told.append(answer)
                    self.assertEqual([console.said, console.told], [turn + 1, tuple(told)])
                    counts[answer] = counts.get(answer, 0) + 1
            self.assertEqual(seen(console), [expected(session, line) for line in QUESTIONS])
        self.assertGreater(min(counts["done"], counts["refused"], counts["what"]), 50)

    def test_each_line(self):
        console = Console(BAD, FIRST)
        self.assertEqual(seen(console), [str(BAD), "0/1 6/1 12/1", "12/1", "0", "no", "-", "bob"])
        self.assertEqual(console.say("help"), HELP)
        self.assertEqual([console.say("day 0"), console.say("think cyd -7/2")], ["done", "done"])
        self.assertEqual(seen(console), [str(BAD), "3/1 6/1 -7/2", "19/2", "1", "no", "-", "bob"])
        self.assertEqual([console.say("undo"), console.say("undo"), console.say("undo")], ["done", "done", "refused"])
        self.assertEqual(seen(console), [str(BAD), "0/1 6/1 12/1", "12/1", "0", "no", "-", "bob"])
        self.assertEqual(seen(Console(GOOD, FIRST))[4:], ["yes", "2", "bob"])
        self.assertEqual(seen(Console(SWAP, ((1, 2), (-1, 2)))), ["a b\n0,1 1,0", "1/2 -1/2", "1/1", "0", "no", "-", "-"])
        self.assertEqual(seen(Console(ONE, ((-5, 3),))), [str(ONE), "-5/3", "0/1", "0", "yes", "0", "x"])
        self.assertEqual(seen(Console(DUO, ((0, 1), (9, 1))))[4:], ["yes", "1", "ann bob"])

    def test_minds_that_have_the_names_of_lines(self):
        council = Council(("undo", "day"), (((1, 1), (1, 1)),))
        console = Console(council, ((0, 1), (1, 1)))
        self.assertEqual(console.say("think undo 5/1"), "done")
        self.assertEqual(console.say("think day -5/1"), "done")
        self.assertEqual([console.say("thoughts"), console.say("voices")], ["5/1 -5/1", "undo day"])

    def test_other_lines(self):
        console = Console(BAD, FIRST)
        console.say("day 1")
        before = seen(console)
        for at, line in enumerate(OTHER_LINES):
            with self.subTest(line=line):
                self.assertEqual(console.say(line), "what")
                self.assertEqual([console.said, console.told[-1]], [9 + at, "what"])
        self.assertEqual(seen(console), before)
        self.assertEqual(console.say("undo"), "done")
        self.assertEqual(console.say("undo"), "refused")

    def test_refused(self):
        console = Console(BAD, FIRST)
        lines = ["undo", "day 3", "day 10", "day 99999999999999999999", "think dan 1/2", "think a 1/2", "think ann 2/4",
                 "think ann 0/2", "think ann -3/3", "think ann 1/0", "think ann 0/0", "think ann -1/0", "think dan 2/4",
                 "think annn 1/2", "think abcdefgh 1/2", "think a1 3/1", "think ann 10/15"]
        before = seen(console)
        for line in lines:
            with self.subTest(line=line):
                self.assertEqual(console.say(line), "refused")
        self.assertEqual(seen(console), before)
        self.assertEqual(console.said, 7 + len(lines) + 7)
        self.assertEqual(console.told[7:7 + len(lines)], ("refused",) * len(lines))
        self.assertEqual(console.say("undo"), "refused")

    def test_fractions_that_are_let(self):
        console = Console(BAD, FIRST)
        for text in ("0/1", "1/1", "-1/1", "1/2", "-9/10", "10/9", "100000/7", "7/100000"):
            self.assertEqual(console.say(f"think bob {text}"), "done")
            self.assertEqual(console.say("thoughts").split(" "), ["0/1", text, "12/1"])

    def test_by_name(self):
        console = Console(thoughts=FIRST, council=GOOD)
        self.assertEqual(console.say(line="day 0"), "done")
        self.assertEqual(console.say(line="thoughts"), "3/1 6/1 9/1")


class TestLongNumbers(unittest.TestCase):
    """Python itself reads and writes no numbers of more than 4300 figures at once."""

    def test_numbers_of_any_length_are_read_and_written(self):
        for many in (1, 2, 59, 60, 61, 119, 120, 121, 600, 2990):
            for top in ("1" * many, "9" * many, "-" + "7" * many, "1" + "0" * many, "-1" + "0" * many + "3"):
                console = Console(ONE, ((0, 1),))
                text = f"{top}/1"
                self.assertEqual(console.say(f"think x {text}"), "done")
                self.assertEqual(console.say("thoughts"), text)
            bottom = "1" + "0" * many
            self.assertEqual(console.say(f"think x -{'3' * many}/{bottom}"), "done")
            self.assertEqual(console.say("thoughts"), f"-{'3' * many}/{bottom}")

    def test_lines_of_six_thousand_signs(self):
        console = Console(ONE, ((0, 1),))
        digits = "8" * 5980
        self.assertEqual(console.say(f"think x {digits}/1"), "done")
        self.assertEqual(console.say("thoughts"), digits + "/1")
        self.assertEqual(console.say(f"think x 1/{digits}"), "done")
        self.assertEqual(console.say("thoughts"), "1/" + digits)
        self.assertEqual(console.say(f"think x 2/{digits}"), "refused")
        self.assertEqual(console.say(f"day {digits}"), "refused")
        self.assertEqual(console.say(f"day 0{digits}"), "what")
        self.assertEqual(console.say(f"think x {digits}/0{digits[:9]}"), "what")
        self.assertEqual(console.say("x" * 6000), "what")

    def test_fractions_that_grow_from_day_to_day(self):
        thoughts = drawn_thoughts(random.Random(7), 6)
        console, session = Console(GREAT, thoughts), Session(GREAT, thoughts)
        for turn in range(120):
            console.say(f"day {turn % 6}")
            session.day(turn % 6)
        for text, (top, bottom) in zip(console.say("thoughts").split(" "), session.thoughts):
            self.assertRegex(text, "^-?[1-9][0-9]*/[1-9][0-9]*$")
            for digits, value in zip(text.lstrip("-").split("/"), (abs(top), bottom)):
                self.assertGreater(len(digits), 4300)
                self.assertTrue(10 ** (len(digits) - 1) <= value < 10 ** len(digits))
                self.assertEqual(int(digits[-40:]), value % 10 ** 40)
                self.assertEqual(int(digits[:40]), value // 10 ** (len(digits) - 40))


class TestErrors(unittest.TestCase):
    def test_lines_that_are_no_strings(self):
        console = Console(BAD, FIRST)
        console.say("day 0")
        before = seen(console)
        told = console.told
        for value in all_kinds() + [b"day 0", ["day 0"], ("undo",), BAD]:
            if not isinstance(value, str):
                for call in (lambda: console.say(value), lambda: console.say(line=value)):
                    with self.subTest(kind=value.__class__.__name__):
                        with self.assertRaises(InvalidText) as caught:
                            call()
                        self.assertIs(caught.exception.given, value)
                        self.assertEqual([console.said, console.told], [8, told])
        self.assertEqual(seen(console), before)

    def test_not_a_council_ahead_of_thoughts(self):
        for value in all_kinds() + [str(BAD)]:
            for thoughts in (FIRST, None, ()):
                with self.assertRaises(NotACouncil) as caught:
                    Console(value, thoughts)
                self.assertIs(caught.exception.given, value)
        for thoughts, index in ((None, None), (FIRST[:2], None), (((0, 1), (2, 4), (True, 1)), 1)):
            with self.assertRaises(InvalidThoughts) as caught:
                Console(thoughts=thoughts, council=BAD)
            self.assertEqual(caught.exception.index, index)


class TestConsole(unittest.TestCase):
    def test_a_new_console(self):
        console = Console(BAD, FIRST)
        self.assertEqual([console.said, console.told], [0, ()])
        self.assertIs(bool(console), True)

    def test_said_and_told_count_and_keep_all(self):
        console = Console(BAD, FIRST)
        lines = ["days", "", "day 7", "undo", "day 2", "help", "what", "days"]
        told = tuple([console.say(line) for line in lines])
        self.assertEqual(told, ("0", "what", "refused", "refused", "done", HELP, "what", "1"))
        self.assertEqual([console.said, console.told], [8, told])
        self.assertEqual([console.said.__class__, console.told.__class__], [int, tuple])
        for name in ("said", "told"):
            with self.assertRaises(AttributeError):
                setattr(console, name, 0)

    def test_two_consoles_side_by_side(self):
        one, other = Console(BAD, FIRST), Console(BAD, FIRST)
        one.say("day 0")
        one.say("think ann 100/1")
        self.assertEqual([other.said, other.told], [0, ()])
        self.assertEqual(seen(other), seen(Console(BAD, FIRST)))
        other.say("day 1")
        self.assertEqual(one.say("thoughts"), "100/1 6/1 9/1")
        self.assertEqual(other.say("thoughts"), "9/1 6/1 6/1")
        self.assertEqual(FIRST, ((0, 1), (6, 1), (12, 1)))

    def test_equal_to_itself_alone(self):
        one, other = Console(BAD, FIRST), Console(BAD, FIRST)
        self.assertTrue(one == one)
        self.assertFalse(one != one)
        self.assertFalse(one == other)
        self.assertTrue(one != other)


class TestExamples(unittest.TestCase):
    def test_the_examples_of_the_document(self):
        console = Console(GOOD, FIRST)
        lines = ["needed", "day 0", "thoughts", "think ann -1/2", "spread", "day 2", "think ann 2/4"]
        self.assertEqual([console.say(line) for line in lines],
                         ["2", "done", "3/1 6/1 9/1", "done", "19/2", "refused", "refused"])
        lines = ["undo", "sure", "voices", "think ann 1", "day -1"]
        self.assertEqual([console.say(line) for line in lines] + [console.said, console.told[-2:]],
                         ["done", "yes", "bob", "what", "what", 12, ("what", "what")])


if __name__ == "__main__":
    unittest.main()
