"""The store: a list, allowances and a stock that change by steps, which can be taken back."""

from standinparts.allowances import Allowances
from standinparts.errors import BadCount, BadPart, Lacking, NothingToUndo
from standinparts.lists import PartsList
from standinparts.making import dealing, lack, most
from standinparts.needs import stock_behind
from standinparts.stocks import MOST_COUNT, Stock
from standinparts.words import is_integer, is_word


class Trying:
    """For one with block, which gets a store: behind the block the store is as ahead of it."""

    def __init__(self, store):
        self._store = store
        self._now = None
        self._steps = []

    def __enter__(self):
        self._now = self._store._now
        self._steps = list(self._store._steps)
        return self._store

    def __exit__(self, kind, value, trace):
        store = self._store
        store._now = self._now
        store._steps = self._steps


class Store:
    """A list, allowances and a stock; parts come, allowances are added and things are made, step by step."""

    def __init__(self, parts_list, allowances, stock):
        if not isinstance(parts_list, PartsList):
            raise BadPart("list")
        if not isinstance(allowances, Allowances):
            raise BadPart("allowances")
        if not isinstance(stock, Stock):
            raise BadPart("stock")
        self._parts_list = parts_list
        # The allowances, the stock and how many things were made. A step puts others in their place and changes none
        # of them, so that what stood there ahead of the step can be put back.
        self._now = (allowances, stock.copy(), 0)
        self._steps = []

    def _step_to(self, allowances, stock, many):
        """Does one step."""
        self._steps.append(self._now)
        self._now = (allowances, stock, many)

    def parts_list(self):
        """The list."""
        return self._parts_list

    def allowances(self):
        """The allowances as they are now."""
        return self._now[0]

    def held(self):
        """The stock as it is now, a new one each time."""
        return self._now[1].copy()

    @property
    def made(self):
        """How many things have been made."""
        return self._now[2]

    def put(self, value):
        """Puts another stock in the place of the one that is held."""
        if not isinstance(value, Stock):
            raise BadPart("stock")
        allowances, _, many = self._now
        self._step_to(allowances, value.copy(), many)

    def come(self, part, number):
        """Lets so many units of a part come."""
        if not is_word(part):
            raise BadPart(part)
        allowances, stock, many = self._now
        if not is_integer(number, 0, MOST_COUNT - stock[part]):
            raise BadCount(part)
        grown = stock.copy()
        grown[part] = stock[part] + number
        self._step_to(allowances, grown, many)

    def allow(self, row):
        """Adds an allowance."""
        allowances, stock, many = self._now
        self._step_to(allowances + row, stock, many)

    def most(self, date):
        """How many things can be made at a date."""
        allowances, stock, _ = self._now
        return most(self._parts_list, allowances, date, stock)

    def make(self, date, many):
        """Makes so many things by a dealing, and tells it."""
        allowances, stock, ahead = self._now
        few = lack(self._parts_list, allowances, date, stock, many)
        if few is not None:
            raise Lacking(few)
        things = dealing(self._parts_list, allowances, date, stock, many)
        self._step_to(allowances, stock_behind(stock, things), ahead + many)
        return things

    def undo(self):
        """Takes back the last step that is not taken back."""
        if len(self._steps) == 0:
            raise NothingToUndo(None)
        self._now = self._steps.pop()

    def __len__(self):
        return len(self._steps)

    def attempt(self, deed):
        """What a function of the store returns; behind it the store is as ahead of it, whatever comes."""
        now = self._now
        steps = list(self._steps)
        try:
            return deed(self)
        finally:
            self._now = now
            self._steps = steps

    def trying(self):
        """An object for one with block, which gives the store and puts it back behind the block."""
        return Trying(self)
