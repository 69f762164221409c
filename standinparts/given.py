"""Allowances to give: which ones of a menu would have to be added so that enough can be made."""

from standinparts.allowances import Allowances, is_allowance
from standinparts.demand import Demand
from standinparts.errors import BadMenu
from standinparts.making import lack, most
from standinparts.needs import check_number

MOST_ENTRIES = 6


def check_menu(allowances, menu):
    """Raises BadMenu for what is no menu beside some allowances."""
    if not isinstance(menu, (list, tuple)) or not 1 <= len(menu) <= MOST_ENTRIES:
        raise BadMenu(None)
    seen = []
    for index, entry in enumerate(menu):
        if not is_allowance(entry) or entry in allowances or entry in seen:
            raise BadMenu(index)
        seen.append(entry)


def with_rows(allowances, rows):
    """The book with some more allowances."""
    return Allowances([*allowances.rows(), *rows], through=allowances.through)


def with_all(parts_list, allowances, date, menu):
    """The book with all of a menu, after the errors that it and its demand raise."""
    book = with_rows(allowances, menu)
    Demand(parts_list, book, date)
    return book


def choices_of(menu):
    """All choices of a menu, those with fewer indexes ahead, then ascending."""
    found = []
    layer = [()]
    while len(layer) > 0:
        found.extend(layer)
        layer = [(*choice, index) for choice in layer for index in range(len(menu))
                 if len(choice) == 0 or choice[-1] < index]
    return found


def least_given(parts_list, allowances, date, stock, menu, many):
    """All choices with which so many things can be made and of which nothing could be spared."""
    check_menu(allowances, menu)
    check_number(many)
    with_all(parts_list, allowances, date, menu)
    found = []
    for choice in choices_of(menu):
        # What lets make enough does so with more allowances, too, so that only the least ones are looked for.
        if not any([all([index in choice for index in least]) for least in found]):
            book = with_rows(allowances, [menu[index] for index in choice])
            if lack(parts_list, book, date, stock, many) is None:
                found.append(choice)
    return found


def gain_of(parts_list, allowances, date, stock, menu):
    """How many more things can be made with all of a menu, and the list of how many with each entry alone."""
    check_menu(allowances, menu)
    book = with_all(parts_list, allowances, date, menu)
    now = most(parts_list, allowances, date, stock)
    alone = [most(parts_list, with_rows(allowances, [entry]), date, stock) - now for entry in menu]
    return most(parts_list, book, date, stock) - now, alone
