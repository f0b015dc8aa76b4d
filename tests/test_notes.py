"""Points 17 and 18: how a day is written, and which texts are read."""

import unittest

from routevan.days import Day
from routevan.errors import BadRoad, BadTime, NoDay, OffRoad, TooMany
from routevan.notes import read, written
from tests.all_orders import made_days, state
from tests.refusals import refusal

FAR = 10 ** 9
LATE = 10 ** 12
TEXT = "line 20\nhome 5 at 100\nstop 8 from 110 to 120 for 4\nstop 2 from 0 to 130 for 6\n"
ROWS = TEXT.splitlines()
BARE = "ring 9\nhome 0 at 0\n"
# A number at each place where one may stand; all tens, so that any smaller one fits, too.
PLACES = "line {}\nhome {} at {}\nstop {} from {} to {} for {}\nstop {} from {} to {} for {}\n"
MANY = PLACES.count("{}")


def with_number(at, word):
    words = ["10"] * MANY
    words[at] = word
    return PLACES.format(*words)


def joined(rows):
    return "".join(row + "\n" for row in rows)


class Notes(unittest.TestCase):

    def check_refused(self, text, due=NoDay):
        self.assertIs(refusal(read, text), due, text[:200])

    def check_read(self, text, fields):
        day = read(text)
        self.assertIs(type(day), Day)
        self.assertEqual(state(day), fields)
        self.assertEqual((type(day.road), type(day.stops)), (tuple, list))
        self.assertEqual([type(part) for part in day.road], [str, int])
        self.assertEqual((type(day.home), type(day.start)), (int, int))
        for stop in day.stops:
            self.assertIs(type(stop), tuple)
            self.assertEqual([type(number) for number in stop], [int] * 4)
        self.assertEqual(written(day), text)


class Written(Notes):

    def check(self, day, text):
        self.assertEqual(written(day), text)
        self.assertIs(type(written(day)), str)
        self.check_read(text, state(day))

    def test_a_day_without_stops(self):
        self.check(Day(("line", 9), 4, 7, []), "line 9\nhome 4 at 7\n")
        self.check(Day(("ring", 9), 0, 0, []), BARE)

    def test_a_day_of_one_stop(self):
        self.check(Day(("ring", 9), 4, 7, [(6, 12, 20, 3)]), "ring 9\nhome 4 at 7\nstop 6 from 12 to 20 for 3\n")

    def test_stops_in_their_order(self):
        self.check(Day(("line", 20), 5, 100, [(8, 110, 120, 4), (2, 0, 130, 6)]), TEXT)
        turned = joined(ROWS[:2] + [ROWS[3], ROWS[2]])
        self.check(Day(("line", 20), 5, 100, [(2, 0, 130, 6), (8, 110, 120, 4)]), turned)

    def test_stops_that_are_all_alike(self):
        row = "stop 0 from 0 to 0 for 0"
        self.check(Day(("ring", 9), 0, 0, [(0, 0, 0, 0)] * 7), BARE + joined([row] * 7))

    def test_the_least_and_the_greatest_numbers(self):
        self.check(Day(("ring", 1), 0, 0, [(0, 0, 0, 0)]), "ring 1\nhome 0 at 0\nstop 0 from 0 to 0 for 0\n")
        self.check(Day(("line", 1), 1, 0, []), "line 1\nhome 1 at 0\n")
        self.check(Day(("line", FAR), FAR, LATE, [(FAR, LATE, LATE, LATE)]), joined([
            "line 1000000000",
            "home 1000000000 at 1000000000000",
            "stop 1000000000 from 1000000000000 to 1000000000000 for 1000000000000",
        ]))
        self.check(Day(("ring", FAR), FAR - 1, LATE - 1, [(0, 0, LATE, 1)]), joined([
            "ring 1000000000", "home 999999999 at 999999999999", "stop 0 from 0 to 1000000000000 for 1",
        ]))

    def test_days_of_all_numbers_of_stops(self):
        for stops in range(8):
            for day in made_days(20, stops, stops):
                word, length = day.road
                rows = ["%s %d" % (word, length), "home %d at %d" % (day.home, day.start)]
                rows += ["stop %d from %d to %d for %d" % stop for stop in day.stops]
                self.check(day, joined(rows))

    def test_the_day_stays_as_it_was_and_two_days_read_have_nothing_in_common(self):
        one, other = read(TEXT), read(TEXT)
        before = state(one)
        written(one)
        self.assertEqual(state(one), before)
        one.stops.clear()
        self.assertEqual(state(other), before)
        self.assertEqual(state(read(TEXT)), before)


class OtherRows(Notes):

    def test_the_text_that_the_others_are_made_of(self):
        self.check_read(TEXT, (("line", 20), 5, 100, [(8, 110, 120, 4), (2, 0, 130, 6)]))
        self.check_read(BARE, (("ring", 9), 0, 0, []))
        self.check_read(with_number(0, "10"), (("line", 10), 10, 10, [(10, 10, 10, 10)] * 2))

    def test_the_empty_text_and_texts_of_blanks_or_line_ends(self):
        for text in ("", " ", "\n", "\n\n", "\n\n\n", " \n \n", "\t\n\t\n"):
            self.check_refused(text)

    def test_a_row_lacks(self):
        for text in ("line 20\n", "line 20", "home 5 at 100\n", joined(ROWS[1:]), joined([ROWS[0]] + ROWS[2:])):
            self.check_refused(text)
        self.check_refused(joined(ROWS[2:]))

    def test_a_row_too_many(self):
        for at in range(len(ROWS) + 1):
            for row in ("", " ", "line 20", "ring 20", "home 5 at 100", "end", "stop", "8", "# stop"):
                self.check_refused(joined(ROWS[:at] + [row] + ROWS[at:]))
        self.check_refused(TEXT + TEXT)
        self.check_refused(BARE + BARE)

    def test_rows_in_another_order(self):
        # Stops that change places are still a day, so one of the two is the road or the home.
        for one in range(2):
            for other in range(one + 1, len(ROWS)):
                rows = list(ROWS)
                rows[one], rows[other] = rows[other], rows[one]
                self.check_refused(joined(rows))
        self.check_refused(joined(reversed(ROWS)))

    def test_line_ends(self):
        for text in (TEXT, BARE, with_number(0, "10")):
            self.check_refused(text[:-1])
            self.check_refused(text + "\n")
            self.check_refused("\n" + text)
            self.check_refused(text[:-1] + " ")
            self.check_refused(text + " ")
            self.check_refused(text.replace("\n", " "))
            self.check_refused(text.replace("\n", "\n\n", 1))
            self.check_refused(text.replace("\n", " ", 1))

    def test_other_signs_for_line_ends(self):
        for sign in ("\r", "\r\n", "\x0b", "\x0c", "\x1c", "\x85", "\u2028", ";", "\\n"):
            for text in (TEXT, BARE):
                self.check_refused(text.replace("\n", sign))
                self.check_refused(text.replace("\n", sign, 1))
                self.check_refused(text[:-1] + sign)

    def test_blanks_and_tabs(self):
        for at, sign in enumerate(TEXT):
            if sign == " ":
                for other in ("  ", "\t", " \t", "\t ", "", "\n", "_", "\xa0"):
                    self.check_refused(TEXT[:at] + other + TEXT[at + 1:])

    def test_a_blank_or_a_tab_ahead_of_or_behind_a_row(self):
        for at, row in enumerate(ROWS):
            for other in (" " + row, row + " ", "\t" + row, row + "\t", "\r" + row, row + "\r"):
                self.check_refused(joined(ROWS[:at] + [other] + ROWS[at + 1:]))


class OtherWords(Notes):

    def test_a_word_in_another_spelling_at_each_place(self):
        for at, row in enumerate(ROWS):
            words = row.split(" ")
            for place in range(0, len(words), 2):
                word = words[place]
                spelt = (word.upper(), word.title(), word[:-1], word + "s", word + ":")
                for other in spelt + ("", "stop", "at", "5", "loop"):
                    if other != word:
                        changed = " ".join(words[:place] + [other] + words[place + 1:])
                        self.check_refused(joined(ROWS[:at] + [changed] + ROWS[at + 1:]))

    def test_a_word_lacks_or_is_too_many(self):
        for at, row in enumerate(ROWS):
            words = row.split(" ")
            for place in range(len(words)):
                fewer = " ".join(words[:place] + words[place + 1:])
                self.check_refused(joined(ROWS[:at] + [fewer] + ROWS[at + 1:]))
            for place in range(len(words) + 1):
                for more in ("0", "to", "to 5"):
                    longer = " ".join(words[:place] + [more] + words[place:])
                    self.check_refused(joined(ROWS[:at] + [longer] + ROWS[at + 1:]))

    def test_numbers_and_words_that_changed_places(self):
        self.check_refused("20 line\nhome 5 at 100\n")
        self.check_refused("line 20\n5 home 100 at\n")
        self.check_refused("line 20\nat 100 home 5\n")
        self.check_refused(BARE + "stop 8 to 120 from 110 for 4\n")

    def test_words_of_thousands_of_figures(self):
        long = "9" * 6000
        for at, row in enumerate(ROWS):
            words = row.split(" ")
            for place in range(len(words)):
                changed = " ".join(words[:place] + [long] + words[place + 1:])
                self.check_refused(joined(ROWS[:at] + [changed] + ROWS[at + 1:]))


class Numbers(Notes):

    def test_what_is_no_number_at_each_place(self):
        bad = ("", "-1", "+1", "-0", "+10", "1.0", "1e1", "1_0", "0x1", "ten", "x", "1x", "x1", "1,0", "1-", "--1",
               "00", "01", "010", "0000", "-", ".", "'1'", "\xb2", "\u0661", "\uff11", "1\t", "None")
        for at in range(MANY):
            for word in bad:
                self.check_refused(with_number(at, word))

    def test_numbers_of_too_many_figures(self):
        for at in range(MANY):
            for word in ("9" * 16, "1" + "0" * 15, "0" * 16, "0" * 15 + "1", "1" * 4301, "9" * 6000, "0" * 6000):
                self.check_refused(with_number(at, word))

    def test_numbers_of_fifteen_figures_are_read(self):
        dues = [BadRoad, OffRoad, BadTime] + [OffRoad, BadTime, BadTime, BadTime] * 2
        for word in ("9" * 15, "1" + "0" * 14):
            for at, due in enumerate(dues):
                self.check_refused(with_number(at, word), due)

    def test_nought_is_read(self):
        self.check_read("line 9\nhome 0 at 0\nstop 0 from 0 to 0 for 0\n", (("line", 9), 0, 0, [(0, 0, 0, 0)]))


class RefusedByItsNumbers(Notes):

    def test_bad_roads(self):
        for word in ("line", "ring"):
            self.check_refused(word + " 0\nhome 0 at 0\n", BadRoad)
            self.check_refused(word + " 1000000001\nhome 0 at 0\n", BadRoad)

    def test_places_off_the_road(self):
        self.check_refused("line 9\nhome 10 at 0\n", OffRoad)
        self.check_refused("ring 9\nhome 9 at 0\n", OffRoad)
        self.check_refused(BARE + "stop 9 from 0 to 0 for 0\n", OffRoad)
        self.check_refused("line 9\nhome 9 at 0\nstop 10 from 0 to 0 for 0\n", OffRoad)

    def test_bad_times(self):
        beyond = str(LATE + 1)
        self.check_refused("ring 9\nhome 0 at " + beyond + "\n", BadTime)
        self.check_refused(BARE + "stop 0 from " + beyond + " to " + beyond + " for 0\n", BadTime)
        self.check_refused(BARE + "stop 0 from 0 to " + beyond + " for 0\n", BadTime)
        self.check_refused(BARE + "stop 0 from 0 to 0 for " + beyond + "\n", BadTime)
        self.check_refused(BARE + "stop 0 from 5 to 4 for 0\n", BadTime)

    def test_more_than_seven_stops(self):
        row = "stop 0 from 0 to 0 for 0"
        self.assertEqual(len(read(BARE + joined([row] * 7)).stops), 7)
        for many in (8, 9, 100):
            self.check_refused(BARE + joined([row] * many), TooMany)

    def test_the_first_one_that_is_due(self):
        bad = joined(["stop 9 from 5 to 4 for 0"] * 8)
        beyond = str(LATE + 1)
        self.check_refused("ring 0\nhome 9 at " + beyond + "\n" + bad, BadRoad)
        self.check_refused("ring 9\nhome 9 at " + beyond + "\n" + bad, OffRoad)
        self.check_refused("ring 9\nhome 8 at " + beyond + "\n" + bad, BadTime)
        self.check_refused(BARE + bad, TooMany)
        self.check_refused(BARE + "stop 9 from 5 to 4 for 0\n", OffRoad)
        self.check_refused(BARE + "stop 8 from 5 to 4 for 0\nstop 9 from 0 to 0 for 0\n", BadTime)

    def test_no_day_is_told_ahead_of_what_the_numbers_are(self):
        numbers = ("ring 0\nhome 0 at 0\n", "ring 9\nhome 9 at 0\n", "ring 9\nhome 0 at 9999999999999\n",
                   BARE + joined(["stop 0 from 0 to 0 for 0"] * 8), BARE + "stop 9 from 0 to 0 for 0\n",
                   BARE + "stop 0 from 5 to 4 for 0\n")
        for text in numbers:
            self.assertNotIn(refusal(read, text), (None, NoDay))
            for row in ("", "stop 0 from 0 to 0", "stop 0 from 0 to 0 for 01", "stop 0 from 0 to 0 for -1",
                        "stop 0 from 0 to 0 for " + "1" * 16, "home 0 at 0"):
                self.check_refused(text + row + "\n")
            self.check_refused(text[:-1])
        self.check_refused("ring 0\nhome 00 at 0\n")
        self.check_refused("ring 0\n")


if __name__ == "__main__":
    unittest.main()
