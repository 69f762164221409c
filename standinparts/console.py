"""The console: a store that is told and asked by rows of text."""

from standinparts.errors import BadLine
from standinparts.needs import uses
from standinparts.stocks import Stock
from standinparts.store import Store
from standinparts.texts import allowance_in, count_in, is_number
from standinparts.texts import write_allowances, write_dealing, write_list, write_stock

DONE = "ok"


def numbers_in(words, many):
    """The numbers that so many words write, or None."""
    if len(words) != many or not all([is_number(word) for word in words]):
        return None
    return [int(word) for word in words]


def step_in(words):
    """What the words between the blanks of a row tell the store to do, as (kind, values), or None."""
    kind, *rest = words
    values = None
    if kind == "come":
        values = count_in(rest)
    elif kind == "allow":
        values = allowance_in(rest)
    elif kind == "make":
        values = numbers_in(rest, 2)
    return None if values is None else (kind, values)


def do_step(store, step):
    """Does what step_in told, and tells the answer."""
    kind, values = step
    if kind == "make":
        return write_dealing(store.make(values[0], values[1]))
    if kind == "come":
        store.come(values[0], values[1])
    else:
        store.allow(values)
    return DONE


def uses_text(store, date, many):
    """The text of the uses of all candidates."""
    told = uses(store.parts_list(), store.allowances(), date, store.held(), many)
    if told is None:
        return "none"
    return "; ".join([f"{part} {least} {greatest}" for part, (least, greatest) in told.items()])


def answer_by_numbers(store, words):
    """The answer to a row with numbers that is no step, or None."""
    kind, *rest = words
    if kind == "most":
        numbers = numbers_in(rest, 1)
        return None if numbers is None else str(store.most(numbers[0]))
    if kind == "uses":
        numbers = numbers_in(rest, 2)
        return None if numbers is None else uses_text(store, numbers[0], numbers[1])
    return None


def answer_to(store, row):
    """The answer to a row that is no step, or None."""
    if row == "undo":
        store.undo()
        return DONE
    if row == "stock":
        return write_stock(store.held())
    if row == "list":
        return write_list(store.parts_list())
    if row == "allowances":
        return write_allowances(store.allowances())
    if row == "made":
        return str(store.made)
    return answer_by_numbers(store, row.split(" "))


class Console:
    """A store with an empty stock at first, which is told and asked by rows."""

    def __init__(self, parts_list, allowances):
        self._store = Store(parts_list, allowances, Stock())

    def say(self, row):
        """The answer to a row."""
        if not isinstance(row, str):
            raise BadLine(row)
        words = row.split(" ")
        tried = words[0] == "try" and len(words) > 1
        step = step_in(words[1:] if tried else words)
        if tried and step is not None:
            return self._store.attempt(lambda store: do_step(store, step))
        if step is not None:
            return do_step(self._store, step)
        answer = answer_to(self._store, row)
        if answer is None:
            raise BadLine(row)
        return answer
