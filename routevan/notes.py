"""Writing: a day as a text of rows, and the day that is read from such a text."""

from routevan.days import Day
from routevan.errors import NoDay
from routevan.roads import LINE, RING

FIGURES = "0123456789"
MOST_FIGURES = 15
# The words of a row; a number stands behind each of them.
HOME_WORDS = ("home", "at")
STOP_WORDS = ("stop", "from", "to", "for")


def written(day):
    """Write a day in rows."""
    word, length = day.road
    rows = [f"{word} {length}\n", f"home {day.home} at {day.start}\n"]
    for place, opens, closes, stay in day.stops:
        rows.append(f"stop {place} from {opens} to {closes} for {stay}\n")
    return "".join(rows)


def number_of(word):
    """Read a number; NoDay where it is not written as a day's numbers are."""
    # Python refuses to read thousands of figures, so the length is looked at ahead of them.
    if not 1 <= len(word) <= MOST_FIGURES:
        raise NoDay("a number has no figures, or too many")
    for sign in word:
        if sign not in FIGURES:
            raise NoDay("a number is not written in figures alone")
    if word[0] == "0" and word != "0":
        raise NoDay("a number has a nought ahead")
    return int(word)


def numbers_of(row, names):
    """Read the numbers of a row that has just these words, and a number behind each of them."""
    words = row.split(" ")
    if len(words) != 2 * len(names) or tuple(words[::2]) != names:
        raise NoDay("a row has other words than told")
    return [number_of(word) for word in words[1::2]]


def road_of(row):
    """Read a road from its row."""
    word = row.split(" ")[0]
    if word not in (LINE, RING):
        raise NoDay("the first row has no road's word")
    return word, numbers_of(row, (word,))[0]


def read(text):
    """Read the day that is written in the text; NoDay where none is, else refused as a day is."""
    if not text.endswith("\n"):
        raise NoDay("the last row has no line end")
    rows = text[:-1].split("\n")
    if len(rows) < 2:
        raise NoDay("the rows of the road and the home are not both there")
    # All rows are read ahead of the day, since NoDay goes ahead of what refuses the numbers.
    road = road_of(rows[0])
    home, start = numbers_of(rows[1], HOME_WORDS)
    stops = [tuple(numbers_of(row, STOP_WORDS)) for row in rows[2:]]
    return Day(road, home, start, stops)
