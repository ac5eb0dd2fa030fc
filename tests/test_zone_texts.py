import random
import unittest

from clockfolds.errors import BadNumber, BadOrder, BadRow, BadText, BadZone
from clockfolds.texts import read_zone, zone_text
from clockfolds.yearly import is_yearly
from clockfolds.zones import Zone, rule_changes
from models import NO_TEXTS, ODD_LETTERS
from zone_models import DAY, FOUR, RULES, SUMMER, THREE, TOLDS, WALLS, some_tolds

SUMMER_ROWS = "row last 3 6 at 3600 utc 7200\nrow last 10 6 at 3600 utc 3600\n"
PLAIN = "offset 3600\nchange 5 0\nchange 9 0\nchange 10 -60\n"
RULED = PLAIN + "since 11\n" + SUMMER_ROWS
LONG = ("offset 0\nsince 0\nrow nth 2 4 1 at -86400 wall 3600\nrow from 3 1 1 at 172800 wall 1800\n"
        "row last 10 4 at 0 utc 3600\nrow day 304 at 90000 wall -60\n")
TEXTS = ["offset 0\n", "offset -86399\nchange 1 86399\n", PLAIN, "offset 3600\nsince 0\n" + SUMMER_ROWS, RULED, LONG]


def is_number_text(word):
    digits = word[1:] if word[:1] == "-" else word
    return (0 < len(digits) <= 30 and all(letter in "0123456789" for letter in digits)
            and (digits[0] != "0" or word == "0"))


def is_line(line, kind):
    """Whether a line is one of a kind of lines, by its form."""
    words = line.split(" ")
    if kind == "row":
        if words[0] != "row" or len(words) < 6 or words[-4] != "at" or words[-2] not in ("utc", "wall"):
            return False
        if not all(is_number_text(word) for word in [*words[2:-4], words[-3], words[-1]]):
            return False
        return is_yearly((words[1], *[int(word) for word in words[2:-4]]))
    many = {"offset": 1, "change": 2, "since": 1}[kind]
    return words[0] == kind and len(words) == many + 1 and all(is_number_text(word) for word in words[1:])


def first_wrong(text):
    """The first line that is not one of a zone in its place, as the document tells it, or None."""
    lines = text.split("\n")
    behind = lines.pop()
    place = "offset"
    rows = 0
    for index, line in enumerate(lines):
        if place == "offset" and is_line(line, "offset"):
            place = "change"
        elif place == "change" and is_line(line, "change"):
            pass
        elif place == "change" and is_line(line, "since"):
            place = "row"
        elif place == "row" and rows < 4 and is_line(line, "row"):
            rows += 1
        else:
            return index
    if behind or place == "offset" or (place == "row" and rows < 2):
        return len(lines)
    return None


class WritingTest(unittest.TestCase):

    def test_examples(self):
        self.assertEqual(zone_text(Zone(0)), "offset 0\n")
        self.assertEqual(zone_text(zone=Zone.fixed(-86399)), "offset -86399\n")
        self.assertEqual(zone_text(Zone(3600, [(5, 0), (9, 0), (10, -60)])), PLAIN)
        self.assertEqual(zone_text(Zone(3600, [(5, 0), (9, 0), (10, -60)], rule=SUMMER, since=11)), RULED)
        self.assertEqual(zone_text(Zone(0, rule=FOUR, since=0)), LONG)
        self.assertEqual(zone_text(Zone(0, rule=WALLS, since=7)), "offset 0\nsince 7\n"
                         "row from 3 25 6 at 7200 wall 7200\nrow from 10 25 6 at 10800 wall 3600\n")

    def test_equal_zones_have_their_own_texts(self):
        one, other = Zone(5), Zone(5, [(9, 5), (11, 5)])
        self.assertEqual(one, other)
        self.assertEqual((zone_text(one), zone_text(other)), ("offset 5\n", "offset 5\nchange 9 5\nchange 11 5\n"))
        one, other = Zone(3600, rule=SUMMER, since=0), Zone(3600, rule=WALLS, since=5)
        self.assertEqual(one, other)
        self.assertNotEqual(zone_text(one), zone_text(other))
        # The offset that the rule hides, and the changes that it has itself.
        self.assertEqual(zone_text(Zone(77, rule=SUMMER, since=0)), "offset 77\nsince 0\n" + SUMMER_ROWS)
        changes = rule_changes(SUMMER, 2000)
        zone = Zone(3600, changes, rule=SUMMER, since=changes[-1][0] + 1)
        self.assertEqual(zone.form[1:3], ((), 0))
        self.assertEqual(zone_text(zone), f"offset 3600\nchange {changes[0][0]} 7200\nchange {changes[1][0]} 3600\n"
                         f"since {changes[1][0] + 1}\n" + SUMMER_ROWS)

    def test_later_changes_to_the_arguments(self):
        changes = [(5, 0), (9, 0)]
        zone = Zone(3600, changes)
        changes.append((10, 60))
        changes[0] = (6, 7)
        self.assertEqual(zone_text(zone), "offset 3600\nchange 5 0\nchange 9 0\n")


class ReadingTest(unittest.TestCase):

    def test_texts_are_read_back(self):
        for text in TEXTS:
            zone = read_zone(text)
            self.assertIs(type(zone), Zone)
            self.assertEqual(zone_text(zone), text)
            self.assertEqual(zone_text(read_zone(text=text)), text)

    def test_zones_are_read_back(self):
        tolds = TOLDS + some_tolds(150, 111)
        for told in tolds:
            zone = told.zone()
            text = zone_text(zone)
            found = read_zone(text)
            self.assertEqual(found, zone)
            self.assertEqual((found.form, zone_text(found)), (zone.form, text))
            self.assertEqual(text.count("change"), len(told.changes))
            self.assertIsNone(first_wrong(text))

    def test_all_rules(self):
        for rule in RULES:
            zone = Zone(-7, [(3, 3)], rule=rule, since=10 ** 29)
            self.assertEqual(zone_text(read_zone(zone_text(zone))), zone_text(zone))
            self.assertEqual(read_zone(zone_text(zone)), zone)

    def test_numbers(self):
        most = 10 ** 30 - 1
        self.assertEqual(read_zone(f"offset 5\nchange {most} 7\n"), Zone(5, [(most, 7)]))
        self.assertEqual(read_zone(f"offset 5\nsince {most}\n" + SUMMER_ROWS), Zone(5, rule=SUMMER, since=most))
        for number in ("", "-", "00", "05", "-0", "-05", "+5", "5.0", "0x5", "1_0", "1" * 31, "-" + "1" * 31, "0" * 31,
                       "1" * 10000, " 5", "5 ", "\u0665", "\u00b2", "\uff15", "five", "None", "True", "5\t", "5\r"):
            for line, text in ((0, f"offset {number}\n"), (1, f"offset 5\nchange {number} 7\n"),
                               (1, f"offset 5\nchange 7 {number}\n"), (2, f"offset 5\nchange 7 7\nsince {number}\n"),
                               (2, f"offset 5\nsince 7\nrow last 3 {number} at 3600 utc 7200\n"),
                               (2, f"offset 5\nsince 7\nrow last 3 6 at {number} utc 7200\n"),
                               (2, f"offset 5\nsince 7\nrow last 3 6 at 3600 utc {number}\n")):
                self.refuses(text, line)

    def refuses(self, text, line):
        with self.assertRaises(BadText) as caught:
            read_zone(text)
        self.assertEqual((type(caught.exception), caught.exception.line), (BadText, line), repr(text))

    def test_no_texts(self):
        for value in [*NO_TEXTS, [TEXTS[0]], ("offset 0\n",)]:
            self.refuses(value, 0)

    def test_missing_lines(self):
        self.refuses("", 0)
        self.refuses("offset 0\nsince 1\n", 2)
        self.refuses("offset 0\nchange 5 0\nsince 9\n", 3)
        self.refuses("offset 0\nsince 1\nrow last 3 6 at 3600 utc 7200\n", 3)
        self.refuses("change 5 0\n", 0)
        self.refuses("since 1\n" + SUMMER_ROWS, 0)
        self.refuses("offset 0\n" + SUMMER_ROWS, 1)
        self.refuses(SUMMER_ROWS, 0)
        self.assertEqual(read_zone("offset 0\n"), Zone(0))

    def test_too_many_lines(self):
        self.refuses("offset 0\noffset 0\n", 1)
        self.refuses(PLAIN + "offset 3600\n", 4)
        self.refuses(RULED + "since 11\n", 7)
        self.refuses(RULED + "change 12 5\n", 7)
        self.refuses("offset 0\nsince 1\nsince 1\n" + SUMMER_ROWS, 2)
        self.refuses("offset 0\nsince 1\nchange 2 5\n" + SUMMER_ROWS, 2)
        self.refuses(LONG + "row last 12 6 at 3600 utc 0\n", 6)
        self.refuses(LONG + "x\n", 6)
        self.refuses("offset 0\nsince 1\nrow last 3 6 at 3600 utc 7200\nchange 5 0\n", 3)

    def test_characters_behind_the_last_line_feed(self):
        self.refuses("offset 0", 0)
        self.refuses("x", 0)
        self.refuses(" ", 0)
        self.refuses("offset 0\nchange 5 0", 1)
        self.refuses("offset 0\n ", 1)
        self.refuses("offset 0\nsince 1", 1)
        self.refuses(RULED[:-1], 6)
        self.refuses(RULED + " ", 7)
        self.refuses(RULED + SUMMER_ROWS[:-1], 8)
        self.refuses(RULED + SUMMER_ROWS + "row last 12 6 at 3600 utc 7", 9)
        self.refuses("offset x\nchange 5 0", 0)

    def test_empty_lines_and_words(self):
        for text, line in (("\n", 0), ("\noffset 0\n", 0), ("offset 0\n\n", 1), ("offset 0\n\nchange 5 0\n", 1),
                           (RULED + "\n", 7), (RULED.replace("since", "\nsince"), 4), ("offset  0\n", 0),
                           (" offset 0\n", 0),
                           ("offset 0 \n", 0), ("offset\n", 0), ("offset \n", 0), ("offset 0\nchange  5 0\n", 1),
                           ("offset 0\nchange 5  0\n", 1), ("offset 0\nchange 5 0 \n", 1), ("offset 0\nchange 5\n", 1),
                           ("offset 0\nchange 5 0 0\n", 1), ("offset 0 0\n", 0), ("offset 0\nsince\n", 1),
                           ("offset 0\nsince 1 1\n", 1), (" \n", 0), ("offset 0\n \n", 1)):
            self.refuses(text, line)
        for at in range(len(SUMMER_ROWS)):
            if SUMMER_ROWS[at] == " ":
                line = 5 + SUMMER_ROWS[:at].count("\n")
                self.refuses(PLAIN + "since 11\n" + SUMMER_ROWS[:at] + " " + SUMMER_ROWS[at:], line)
                self.refuses(PLAIN + "since 11\n" + SUMMER_ROWS[:at] + SUMMER_ROWS[at + 1:], line)

    def test_other_line_ends(self):
        for end in ("\r\n", "\r", "\u2028", "\x0b", "\x0c", "\x85", "\n\n"):
            self.refuses(RULED.replace("\n", end), 1 if end == "\n\n" else 0)
            self.refuses("offset 0\nchange 5 0" + end, 2 if end == "\n\n" else 1)

    def test_rows(self):
        for row in ("row", "row ", "row last 3 6", "row last 3 6 at 3600 utc", "row last 3 6 3600 utc 7200",
                    "row last 3 6 at 3600 7200", "row last 3 6 at 3600 UTC 7200", "row last 3 6 at 3600 local 7200",
                    "row last 3 6 At 3600 utc 7200", "row last 3 6 at utc 3600 7200", "row last 3 at 3600 utc 7200",
                    "row last 3 6 1 at 3600 utc 7200", "row last 3 7 at 3600 utc 7200", "row last 0 6 at 3600 utc 7200",
                    "row nth 3 5 6 at 3600 utc 7200", "row from 12 26 6 at 3600 utc 7200",
                    "row until 1 6 6 at 3600 utc 7200",
                    "row date 2 29 at 3600 utc 7200", "row day 365 at 3600 utc 7200", "row day -1 at 3600 utc 7200",
                    "row first 3 6 at 3600 utc 7200", "row at 3600 utc 7200", "row 5 at 3600 utc 7200",
                    "Row last 3 6 at 3600 utc 7200", "last 3 6 at 3600 utc 7200", "row last 3 6 at at 3600 utc 7200",
                    "row last 3 6 at 3600 utc 7200 at 3600 utc 7200", "row last 3 6 at 3600 utc +02:00",
                    "row row row row row row"):
            self.refuses(f"offset 0\nsince 1\n{row}\n" + SUMMER_ROWS, 2)
            self.refuses(f"offset 0\nsince 1\n{SUMMER_ROWS}{row}\n", 4)

    def test_lines_missing_doubled_and_exchanged(self):
        lines = LONG.replace("since", "change 1 0\nchange 2 5\nsince").replace("since 0", "since 9").split("\n")[:-1]
        zone = read_zone("\n".join(lines) + "\n")
        self.assertEqual(zone_text(zone), "\n".join(lines) + "\n")
        texts = []
        for at in range(len(lines)):
            texts.append(lines[:at] + lines[at + 1:])
            texts.append(lines[:at + 1] + lines[at:])
            texts.extend(lines[:at] + [lines[other]] + lines[at + 1:other] + [lines[at]] + lines[other + 1:]
                         for other in range(at + 1, len(lines)))
        self.judge(["".join(line + "\n" for line in changed) for changed in texts])

    def test_near_texts(self):
        source, texts = random.Random(112), []
        for _ in range(4000):
            text = source.choice(TEXTS)
            for _ in range(source.randint(1, 2)):
                at = source.randrange(len(text) + 1)
                letter = source.choice([*ODD_LETTERS, *" \n-09x", "\noffset 5\n", "\nchange 7 7\n",
                                        "row day 5 at 0 utc 0\n", ""])
                text = text[:at] + letter + text[at + source.randint(0, 1):]
            texts.append(text)
        self.judge(texts)

    def judge(self, texts):
        """Compare with the first wrong line; a text without one may make no zone."""
        wrong = 0
        for text in texts:
            line = first_wrong(text)
            if line is not None:
                self.refuses(text, line)
                wrong += 1
                continue
            try:
                self.assertEqual(zone_text(read_zone(text)), text)
            except (BadNumber, BadZone, BadRow, BadOrder):
                pass
        self.assertGreater(wrong, len(texts) // 4)


class ZoneErrorsTest(unittest.TestCase):

    def fails(self, text, error, **attributes):
        with self.assertRaises(error) as caught:
            read_zone(text)
        self.assertEqual((type(caught.exception), vars(caught.exception)), (error, attributes), text)

    def test_what_the_zone_raises(self):
        for number in (86400, -86400, 10 ** 30 - 1):
            self.fails(f"offset {number}\n", BadNumber, value=number)
            self.fails(f"offset 0\nchange 1 0\nchange 5 {number}\n", BadZone, index=1)
            self.fails(f"offset 0\nsince 1\nrow last 3 6 at 3600 utc 7200\nrow last 10 6 at 3600 utc {number}\n",
                       BadRow, index=1)
        for number in (0, -1, 1, -10 ** 29):
            self.fails(f"offset 0\nchange 1 0\nchange {number} 5\n", BadZone, index=1)
        self.fails("offset 0\nchange 0 5\n", BadZone, index=0)
        for number in (172801, -86401, 10 ** 30 - 1):
            self.fails(f"offset 0\nsince 1\nrow last 3 6 at {number} utc 7200\nrow last 10 6 at 3600 utc 0\n", BadRow,
                       index=0)
        self.fails("offset 0\nsince 1\nrow last 3 6 at 0 utc 60\nrow last 10 6 at 0 utc 60\n", BadRow, index=0)
        self.fails("offset 0\nsince 1\nrow last 3 6 at 0 utc 60\nrow last 10 6 at 0 utc 0\nrow last 11 6 at 0 utc 0\n",
                   BadRow, index=2)
        self.fails("offset 0\nsince 1\nrow last 3 6 at 0 utc 3600\nrow date 3 28 at 0 utc 0\n", BadOrder, year=2002,
                   index=1)
        self.fails("offset 0\nsince -1\n" + SUMMER_ROWS, BadNumber, value=-1)
        self.fails("offset 0\nchange 9 5\nsince 9\n" + SUMMER_ROWS, BadNumber, value=9)

    def test_lines_come_before_zones(self):
        # A line of a wrong form counts first, wherever it stands.
        for text, line in (("offset 86400\nchange 0 0\nx\n", 2), ("offset 86400", 0), ("offset 86400\nsince -1\n", 2),
                           ("offset 86400\nsince -1\n" + SUMMER_ROWS + "x", 4),
                           ("offset 0\nchange 0 5\nchange 5\n", 2)):
            with self.assertRaises(BadText) as caught:
                read_zone(text)
            self.assertEqual(caught.exception.line, line)
        self.fails("offset 86400\nchange 0 0\nsince -1\nrow last 3 6 at 0 utc 60\nrow last 10 6 at 0 utc 60\n",
                   BadNumber, value=86400)
        self.fails("offset 0\nchange 0 0\nsince -1\nrow last 3 6 at 0 utc 60\nrow last 10 6 at 0 utc 60\n", BadZone,
                   index=0)
        self.fails("offset 0\nsince -1\nrow last 3 6 at 0 utc 60\nrow last 10 6 at 0 utc 60\n", BadRow, index=0)

    def test_three_rows(self):
        text = zone_text(Zone(0, rule=THREE, since=5 * DAY))
        self.assertEqual(text.count("row "), 3)
        self.assertEqual(read_zone(text), Zone(0, rule=THREE, since=5 * DAY))


if __name__ == "__main__":
    unittest.main()
