import unittest

from courtmodel import told_by
from onestepcourt.building import build
from onestepcourt.errors import BadSchedule, CourtError
from onestepcourt.limits import MOST_INPUTS, MOST_LATE, MOST_LEVEL, MOST_PLAYERS, MOST_TEXT
from onestepcourt.meaning import check
from onestepcourt.players import WAYS
from onestepcourt.reading import parse
from onestepcourt.schedules import read_schedule, run
from onestepcourt.worlds import World

COURT = "court 61 5 9 0"
HONEST = "player honest 0 20"
PROGRAM = "text\nmain\nend\n."
# Seven lines with which schedules of these tests begin: two players, and two programs.
HEAD = "\n".join((COURT, HONEST, "player word 3 8", PROGRAM, "text", "main", "tell 5", "end", "."))
LINES = HEAD.count("\n") + 1
IMAGE = (1024,)
TELLING = (2 * 1024 + 5, 28 * 1024, 1024)
NUMBERS = ("0", "1", "9", "10", "12345", "99999")
NO_NUMBERS = ("", "-", "-1", "+1", "00", "01", "007", "100000", "123456789", "1.0", "1_0", "a", "0x1", "1a", "None",
              "\u0663", "\u00b2", "1\t", "\t1", "1\r", "1,2", "1,", "*")
SPACES = ("\t", "\r", "\u00a0", "\x0b", "\x0c")


def lines_of(*lines):
    return HEAD + "\n" + "\n".join(lines)


class Reading(unittest.TestCase):
    def wrong(self, text, line):
        for function in (read_schedule, run):
            with self.subTest(text=text, function=function.__name__), self.assertRaises(BadSchedule) as raised:
                function(text)
            self.assertEqual(raised.exception.line, line, text)

    def events(self, *lines):
        return read_schedule(lines_of(*lines))[1]

    def wrong_line(self, *lines):
        for line in lines:
            self.wrong(lines_of(line), LINES + 1)
            self.wrong(lines_of("tick", "", line, "else"), LINES + 3)


class Forms(Reading):
    """Point 1006: the lines that have their form."""

    def test_the_example(self):
        text = "court 61 5 9 0\nplayer honest 0 20\ntext\nmain\nend\n.\nask 0 0 1 7,8\ntick 2"
        self.assertEqual(read_schedule(text), (
            (61, 5, 9, 0, (("honest", 0, 20),)), (("ask", 0, (1024,), (7, 8), 1), ("tick",), ("tick",))))

    def test_the_least_schedule(self):
        self.assertEqual(read_schedule(COURT + "\n" + HONEST), ((61, 5, 9, 0, (("honest", 0, 20),)), ()))

    def test_the_kinds_of_what_is_returned(self):
        settings, events = read_schedule(lines_of("ask 0 0 1 7,8", "deed 1"))
        for value in (settings, settings[4], settings[4][0], events, events[0], events[0][3], events[1]):
            self.assertIs(type(value), tuple)

    def test_courts(self):
        for bits in (7, 13, 31, 61):
            for bond, patience in ((1, 1), (99999, 99999), (10, 5)):
                for late in range(MOST_LATE + 1):
                    text = f"court {bits} {bond} {patience} {late}\n{HONEST}"
                    self.assertEqual(read_schedule(text)[0][:4], (bits, bond, patience, late))

    def test_players(self):
        for way in WAYS + ("honest",):
            for number in NUMBERS:
                for coins in NUMBERS:
                    settings = read_schedule(f"{COURT}\nplayer {way} {number} {coins}")[0]
                    self.assertEqual(settings[4], ((way, int(number), int(coins)),))

    def test_the_number_of_players(self):
        for many in range(1, MOST_PLAYERS + 1):
            lines = [COURT] + [f"player honest {place} 7" for place in range(many)]
            self.assertEqual(read_schedule("\n".join(lines))[0][4],
                             tuple(("honest", place, 7) for place in range(many)))

    def test_asks(self):
        self.assertEqual(self.events("ask 1 0 0 -", "ask 0 1 8 5"),
                         (("ask", 1, IMAGE, (), 0), ("ask", 0, TELLING, (5,), 8)))
        for level in range(MOST_LEVEL + 1):
            self.assertEqual(self.events(f"ask 0 0 {level} 0"), (("ask", 0, IMAGE, (0,), level),))

    def test_words(self):
        for words in ((0,), (65535,), (1, 2), (65535,) * MOST_INPUTS, tuple(range(MOST_INPUTS))):
            text = ",".join(str(word) for word in words)
            self.assertEqual(self.events(f"ask 0 0 1 {text}"), (("ask", 0, IMAGE, words, 1),))

    def test_agains(self):
        for question in NUMBERS:
            self.assertEqual(self.events(f"again 1 1 3 {question}"),
                             (("ask", 1, TELLING, ("answer", int(question)), 3),))

    def test_ticks(self):
        self.assertEqual(self.events("tick"), (("tick",),))
        for times in (1, 2, 10, 99999):
            self.assertEqual(self.events(f"tick {times}"), (("tick",),) * times)

    def test_deeds(self):
        self.assertEqual(self.events("deed 0", "deed 1"), (("deed", 0), ("deed", 1)))

    def test_places(self):
        for name in ("deliver", "double", "lose"):
            for place in NUMBERS:
                self.assertEqual(self.events(f"{name} {place}"), ((name, int(place)),))

    def test_lines_in_any_order(self):
        events = self.events("tick", "deed 0", "text", "main", "end", ".", "ask 0 2 1 -", "lose 5", "ask 0 0 1 -", "tick 2",
                             "text", "main", "tell 5", "end", ".", "again 1 3 0 0")
        self.assertEqual(events, (
            ("tick",), ("deed", 0), ("ask", 0, IMAGE, (), 1), ("lose", 5), ("ask", 0, IMAGE, (), 1), ("tick",), ("tick",),
            ("ask", 1, TELLING, ("answer", 0), 0)))

    def test_empty_lines_and_comments(self):
        plain = lines_of("ask 0 0 1 7", "tick 2", "deed 1")
        expected = read_schedule(plain)
        for line in ("", "#", "# tick 7", "#tick", "# court 61 1 1 1", "#.", "# text"):
            lines = [COURT, HONEST, "player word 3 8", PROGRAM, "text\nmain\ntell 5\nend\n.", "ask 0 0 1 7", "tick 2",
                     "deed 1"]
            self.assertEqual(read_schedule("\n".join(line + "\n" + other for other in lines)), expected)
            self.assertEqual(read_schedule(plain + "\n" + line), expected)
            self.assertEqual(read_schedule(plain + "\n" + line + "\n\n"), expected)


class Texts(Reading):
    def program(self, *lines):
        return read_schedule("\n".join((COURT, HONEST, "text") + lines + (".", "ask 0 0 1 -")))[1][0][2]

    def test_lines_within_a_text(self):
        lines = ("", "# a comment", "to f(n)", "", "  give n + 1 # more", "end", "#", "main", "  tell f(7)", "end", "", "")
        text = "".join(line + "\n" for line in lines)
        self.assertEqual(self.program(*lines), build(check(parse(text)))[0])

    def test_lines_that_would_be_lines_of_a_schedule(self):
        for line in ("tick", "text", "court 61 5 9 0", "deed 0", " .", ". ", "..", "#."):
            lines = [COURT, HONEST, "text", "main", line, "end", ".", "tick"]
            if line == "#.":
                self.assertEqual(read_schedule("\n".join(lines))[1], (("tick",),))
            else:
                self.wrong("\n".join(lines), 3)

    def test_the_first_line_with_a_full_stop_alone_ends_it(self):
        self.wrong("\n".join((COURT, HONEST, "text", "main", "end", ".", ".")), 7)
        self.wrong("\n".join((COURT, HONEST, "text", "main", ".", "end", ".")), 3)

    def test_each_line_has_a_newline_behind_it(self):
        longest = "main\nend\n" + "#" * (MOST_TEXT - 10)
        self.assertEqual(len(longest), MOST_TEXT - 1)
        self.assertEqual(self.program(*longest.split("\n")), IMAGE)
        self.wrong("\n".join((COURT, HONEST, "text", longest + "#", ".")), 3)

    def test_programs_that_have_no_source_tree(self):
        for program in ("", "main", "end", "main\nend\nend", "main\ntell\nend", "main\ntell k +\nend", "table t 65\nmain\nend",
                        "main\nend\ttell", "main\ntell \u0663\nend", "main\nend\r", "main\ntell 65536\nend"):
            self.wrong("\n".join((COURT, HONEST, "tick", "text", program, ".", "else")), 4)

    def test_programs_that_break_a_rule(self):
        for program in ("main\ntell k\nend", "main\ngive 1\nend", "main\ndo f()\nend", "table t 1\ntable t 1\nmain\nend",
                        "main\nlet k = 1\nlet k = 2\nend"):
            parse(program)
            self.wrong("\n".join((COURT, HONEST, "", "text", program, ".", "tick")), 4)

    def test_programs_that_do_not_fit(self):
        for many, fits in ((119, True), (120, False)):
            program = "main\n" + "tell 1\n" * many + "end"
            text = "\n".join((COURT, HONEST, "text", program, ".", "tick"))
            if fits:
                self.assertEqual(len(read_schedule(text)[1]), 1)
            else:
                self.wrong(text, 3)

    def test_texts_without_an_end(self):
        for lines in ((), ("main",), ("main", "end"), ("main", "end", ""), ("main", "end", " ."), ("main", "end", "#.")):
            self.wrong("\n".join((COURT, HONEST, "tick", "text") + lines), 4)

    def test_the_line_of_a_text_comes_ahead_of_later_lines(self):
        self.wrong("\n".join((COURT, HONEST, "text", "main", ".", "else")), 3)
        self.wrong("\n".join((COURT, HONEST, "else", "text", "main", ".")), 3)

    def test_a_text_is_the_word_alone(self):
        for line in ("text 1", "text ", " text", "Text", "texts"):
            self.wrong("\n".join((COURT, HONEST, line, "main", "end", ".")), 3)


class Wrong(Reading):
    """Points 1006 and 1007: each part wrong once."""

    def test_values_that_are_no_strings(self):
        for value in (None, True, 5, b"court 61 5 9 0", (), ("court 61 5 9 0",), [], {}, object()):
            self.wrong(value, 0)

    def test_the_error(self):
        self.assertTrue(issubclass(BadSchedule, CourtError))
        with self.assertRaises(BadSchedule) as raised:
            read_schedule("")
        self.assertEqual(vars(raised.exception), {"line": 1})

    def test_lines_end_before_there_is_a_player(self):
        for text, line in (("", 1), ("\n", 2), ("\n\n\n", 4), ("# only", 1), (COURT, 1), (COURT + "\n", 2),
                           (COURT + "\n\n# more\n", 4), ("\n" + COURT, 2)):
            self.wrong(text, line)

    def test_the_first_line_is_a_court(self):
        for line in (HONEST, "tick", "deed 0", "else", PROGRAM, "lose 3", " "):
            self.wrong(line, 1)
            self.wrong("\n\n" + line + "\n" + COURT + "\n" + HONEST, 3)

    def test_then_come_players(self):
        for line in (COURT, "tick", "deed 0", "else", PROGRAM, "lose 3", "text"):
            self.wrong(COURT + "\n" + line, 2)
            self.wrong(COURT + "\n#\n" + line + "\n" + HONEST, 3)

    def test_too_many_players(self):
        lines = [COURT] + [HONEST] * (MOST_PLAYERS + 1)
        self.wrong("\n".join(lines), MOST_PLAYERS + 2)
        self.wrong("\n".join(lines[:3] + ["", "# more"] + lines[3:] + ["else"]), MOST_PLAYERS + 4)

    def test_no_court_and_no_player_behind_other_lines(self):
        self.wrong(COURT + "\n" + HONEST + "\n" + COURT, 3)
        self.wrong_line(COURT, HONEST, "court 61 5 9 0", "player copy 1 1")
        for other in ("tick", PROGRAM, "lose 0", "deed 0"):
            text = "\n".join((COURT, HONEST, other, HONEST))
            self.wrong(text, text.count("\n") + 1)

    def test_parts_of_a_court(self):
        for place, values in enumerate((
                ("0", "1", "8", "14", "60", "62", "127", "6", "610"), ("0",), ("0",), (str(MOST_LATE + 1), "99", "99999"))):
            for value in values + NO_NUMBERS:
                parts = ["61", "5", "9", "0"]
                parts[place] = value
                self.wrong("court " + " ".join(parts) + "\n" + HONEST, 1)

    def test_parts_of_a_player(self):
        for way in ("Honest", "liar", "honest,", "", "0", "words", "honest word", "flood ", "\thonest"):
            self.wrong(f"{COURT}\nplayer {way} 0 20", 2)
        for value in NO_NUMBERS:
            self.wrong(f"{COURT}\nplayer honest {value} 20", 2)
            self.wrong(f"{COURT}\n{HONEST}\nplayer word 0 {value}", 3)

    def test_parts_of_an_ask(self):
        for value in NO_NUMBERS + ("2", "3", "99999"):
            self.wrong_line(f"ask {value} 0 1 -", f"ask 0 {value} 1 -", f"again {value} 0 1 0", f"again 0 {value} 1 0")
        for value in NO_NUMBERS + (str(MOST_LEVEL + 1), "99", "99999"):
            self.wrong_line(f"ask 0 0 {value} -", f"again 0 0 {value} 0")
        for value in NO_NUMBERS:
            self.wrong_line(f"again 0 0 1 {value}")

    def test_words(self):
        for value in ("65536", "99999", "--", "-,1", "1,-", "1,,2", ",1", "1,", "1, 2", "1,02", "1,65536", "", "1;2",
                      ",".join(["1"] * (MOST_INPUTS + 1)), "1,a", "-1", "+1", "00", "1,\u0663", "1,2\t"):
            self.wrong_line(f"ask 0 0 1 {value}")

    def test_programs_above(self):
        lines = [COURT, HONEST, "ask 0 0 1 -", PROGRAM]
        self.wrong("\n".join(lines), 3)
        self.assertEqual(len(read_schedule("\n".join((COURT, HONEST, PROGRAM, "ask 0 0 1 -")))[1]), 1)
        self.wrong("\n".join((COURT, HONEST, PROGRAM, "ask 0 1 1 -", PROGRAM)), 7)

    def test_parts_of_the_other_lines(self):
        for value in NO_NUMBERS:
            self.wrong_line(*[f"{name} {value}" for name in ("tick", "deed", "deliver", "double", "lose")])
        self.wrong_line("tick 0", "deed 2", "deed 99999")

    def test_too_many_and_too_few_parts(self):
        for line in ("ask 0 0 1 -", "again 0 0 1 0", "deed 0", "deliver 0", "double 0", "lose 0", "tick 1"):
            parts = line.split(" ")
            self.wrong_line(line + " 0", line + " -", " ".join(parts[1:]))
            if parts[0] != "tick":
                self.wrong_line(" ".join(parts[:-1]), parts[0])
        for line in ("court 61 5 9", "court 61 5 9 0 0", "court"):
            self.wrong(line + "\n" + HONEST, 1)
        for line in ("player honest 0", "player honest 0 20 1", "player", "player honest"):
            self.wrong(COURT + "\n" + line, 2)

    def test_spaces(self):
        for line in ("ask 0 0 1 -", "again 0 0 1 0", "deed 0", "deliver 0", "double 0", "lose 0", "tick 1", "tick"):
            self.wrong_line(" " + line, line + " ", line + "\t", "\t" + line, line + "\r")
            if " " in line:
                for space in ("  ",) + SPACES:
                    self.wrong_line(line.replace(" ", space, 1))
                head, tail = line.rsplit(" ", 1)
                self.wrong_line(head + "  " + tail)
        for line in (" ", "  ", "\t", " # comment", "\t#", "\r"):
            self.wrong_line(line)
        for line in (" " + COURT, COURT + " ", COURT.replace(" ", "  ", 1), COURT + "\r"):
            self.wrong(line + "\n" + HONEST, 1)
        for line in (" " + HONEST, HONEST + " ", HONEST.replace(" ", "  ", 1), HONEST + "\r"):
            self.wrong(COURT + "\n" + line, 2)

    def test_unknown_lines(self):
        self.wrong_line("else", "Tick", "TICK", "ticks 2", ".", "end", "main", "asks 0 0 1 -", "honest", "0", "-", "word 3")

    def test_the_first_wrong_line(self):
        self.wrong(lines_of("else", "else"), LINES + 1)
        self.wrong(lines_of("tick", "tick 0", "text"), LINES + 2)
        self.wrong("else\nelse", 1)


class Running(Reading):
    """Point 1008."""

    def test_the_world_of_the_events(self):
        text = "\n".join((
            "court 61 5 6 1", "player honest 0 30", "player flood 5 90", "player told 9 30", "text", "main", "let k = 0",
            "while k < inputs", "tell input(k)", "k = k + 1", "end", "end", ".", "ask 1 0 6 9,8", "tick", "deed 1", "deed 2",
            "deliver 3", "double 0", "deliver 1", "tick 3", "lose 0", "deed 1", "deliver 2", "tick 40", "again 0 0 4 0",
            "deed 2", "deliver 0", "tick 20"))
        (bits, bond, patience, late, players), events = read_schedule(text)
        world = World(bits, bond, patience, late, players)
        for event in events:
            world.do(event)
        other = run(text)
        self.assertIsInstance(other, World)
        self.assertEqual(told_by(other.court()), told_by(world.court()))
        self.assertEqual(other.letters(), world.letters())
        self.assertEqual(other.court().answer(0), ("done", (9, 8)))
        self.assertEqual(other.court().question(1)[3], (9, 8))
        self.assertGreater(len(other.court().log()), 10)

    def test_without_events(self):
        world = run(COURT + "\n" + HONEST)
        self.assertEqual((world.court().time(), world.court().coins(), world.letters()), (0, (20,), ()))

    def test_many_ticks(self):
        self.assertEqual(run(COURT + "\n" + HONEST + "\ntick 99999").court().time(), 99999)

    def test_errors(self):
        self.wrong(COURT + "\n" + HONEST + "\ntick\nelse", 4)


if __name__ == "__main__":
    unittest.main()
