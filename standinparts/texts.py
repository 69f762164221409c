"""Texts: how lists, allowances, stocks and dealings are written, and read again."""

from standinparts.allowances import Allowances
from standinparts.errors import BadText
from standinparts.lists import PartsList
from standinparts.stocks import Stock

DIGITS = "0123456789"
MOST_DIGITS = 31
THROUGH = "through"


def is_number(word):
    """Whether a string writes a number: without a sign and a leading zero, with at most 31 digits."""
    if not 1 <= len(word) <= MOST_DIGITS or not all([sign in DIGITS for sign in word]):
        return False
    return word == "0" or word[0] != "0"


def place_text(place):
    """The text of a place."""
    word, plain, number, share = place
    return f"{word} {plain} {number}" + ("" if share is None else f" share {share}")


def allowance_text(row):
    """The text of an allowance."""
    part, plain, since, till = row
    return f"{part} for {plain} since {since}" + ("" if till is None else f" till {till}")


def thing_text(thing):
    """The text of a made thing."""
    return ", ".join([" ".join([word, *parts]) for word, parts in thing])


def write_list(parts_list):
    """The text of a list, its places in order."""
    return "; ".join([place_text(place) for place in parts_list.places()])


def write_allowances(allowances):
    """The text of a book of allowances, ascending."""
    begin = [THROUGH] if allowances.through else []
    return "; ".join(begin + [allowance_text(row) for row in allowances.rows()])


def write_stock(stock):
    """The text of a stock, its parts ascending."""
    return "; ".join([f"{part} {stock[part]}" for part in stock.parts()])


def write_dealing(things):
    """The text of a dealing, its things in order."""
    return "; ".join([thing_text(thing) for thing in things])


def place_in(words):
    """The place that the words between the blanks of a row write, or None; its own words may be any signs."""
    if not 3 <= len(words) <= 5 or "" in words or not is_number(words[2]):
        return None
    if len(words) == 3:
        return words[0], words[1], int(words[2]), None
    if len(words) == 4 or words[3] != "share" or not is_number(words[4]):
        return None
    return words[0], words[1], int(words[2]), int(words[4])


def allowance_in(words):
    """The allowance that the words between the blanks of a row write, or None; its parts may be any signs."""
    if not 5 <= len(words) <= 7 or "" in words or not is_number(words[4]):
        return None
    if words[1] != "for" or words[3] != "since":
        return None
    if len(words) == 5:
        return words[0], words[2], int(words[4]), None
    if len(words) == 6 or words[5] != "till" or not is_number(words[6]):
        return None
    return words[0], words[2], int(words[4]), int(words[6])


def count_in(words):
    """The part, any signs, and the number that the words between the blanks of a row write, or None."""
    if len(words) != 2 or words[0] == "" or not is_number(words[1]):
        return None
    return words[0], int(words[1])


def rows_in(text):
    """The rows of a text, each as the list of what stands between its blanks."""
    if not isinstance(text, str):
        raise BadText(0)
    return [] if text == "" else [row.split(" ") for row in text.split("; ")]


def read_list(text):
    """The list that a text writes."""
    places = []
    for index, words in enumerate(rows_in(text)):
        place = place_in(words)
        if place is None:
            raise BadText(index)
        places.append(place)
    return PartsList(places)


def read_allowances(text):
    """The book of allowances that a text writes."""
    rows = rows_in(text)
    goes_through = len(rows) > 0 and rows[0] == [THROUGH]
    found = []
    for index, words in enumerate(rows[1:] if goes_through else rows):
        allowance = allowance_in(words)
        if allowance is None:
            raise BadText(index)
        found.append(allowance)
    return Allowances(found, through=goes_through)


def read_stock(text):
    """The stock that a text writes."""
    counts = {}
    for index, words in enumerate(rows_in(text)):
        told = count_in(words)
        if told is None or told[0] in counts:
            raise BadText(index)
        counts[told[0]] = told[1]
    return Stock(counts)
