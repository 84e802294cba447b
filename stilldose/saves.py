"""Pumps saved as lines, and loaded from them."""

from stilldose.errors import BadSave
from stilldose.limits import longest_window
from stilldose.pumps import Pump, counts, set_counts

WORDS = ("now", "running", "content", "waiting", "asked", "missed", "total", "free", "sent")
FIGURES = "0123456789"
MOST_FIGURES = 15


def line_of(word, numbers):
    """The line of a word and the numbers behind it."""
    return " ".join([word] + [str(number) for number in numbers])


def saved(pump):
    """The nine lines that tell all of the pump but its settings."""
    rows = [[number] for number in counts(pump)] + [pump.sent]
    return [line_of(word, numbers) for word, numbers in zip(WORDS, rows)]


def is_number(text):
    """Whether the text is a number as it is saved."""
    if len(text) < 1 or len(text) > MOST_FIGURES:
        return False
    if text[0] == "0" and len(text) > 1:
        return False
    return all([sign in FIGURES for sign in text])


def numbers_of(word, line):
    """The numbers behind the word; None if the line is not the word and numbers, with one blank ahead of each."""
    pieces = line.split(" ")
    texts = pieces[1:]
    if pieces[0] != word or not all([is_number(text) for text in texts]):
        return None
    return [int(text) for text in texts]


def fits(word, numbers, longest):
    """Whether the numbers may stand behind the word, where the longest window has so many ticks."""
    if word == "sent":
        return len(numbers) <= longest
    if word == "running":
        return numbers == [0] or numbers == [1]
    return len(numbers) == 1


def rows_of(lines, longest):
    """The numbers of each of the nine lines; BadSave."""
    rows = []
    for place, word in enumerate(WORDS):
        if place >= len(lines):
            raise BadSave(place + 1)
        numbers = numbers_of(word, lines[place])
        if numbers is None or not fits(word, numbers, longest):
            raise BadSave(place + 1)
        rows.append(numbers)
    if len(lines) > len(WORDS):
        raise BadSave(len(WORDS) + 1)
    return rows


def loaded(lines, day, rules, lock, dose, hold):
    """The pump that the lines tell of, with these settings; BadSetting, BadSave."""
    # The settings are looked at first: BadSetting goes ahead of BadSave.
    pump = Pump(day, rules, lock, dose, hold)
    rows = rows_of(lines, longest_window(pump.rules))
    last = len(rows) - 1
    set_counts(pump, [numbers[0] for numbers in rows[:last]], rows[last])
    return pump
