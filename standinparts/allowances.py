"""Allowances, and books of them: which parts may stand for which, and when."""

from standinparts.errors import BadAllowance, BadAllowances, BadDate, TooMany
from standinparts.words import LAST_DATE, is_date, is_word

MOST_ALLOWANCES = 12

# Stands for no end where allowances are ordered: it lies behind all dates.
NO_END = 10000


def is_allowance(value):
    """Whether any value is an allowance: (part, plain, since, till)."""
    if not isinstance(value, tuple) or len(value) != 4:
        return False
    part, plain, since, till = value
    if not is_word(part) or not is_word(plain) or part == plain or not is_date(since):
        return False
    return till is None or is_date(till) and since <= till


def check_allowances(rows):
    """Raises the error of the first thing that is wrong about the rows of a book."""
    if not isinstance(rows, (list, tuple)):
        raise BadAllowance(None)
    seen = set()
    for index, row in enumerate(rows):
        if not is_allowance(row) or row in seen:
            raise BadAllowance(index)
        seen.add(row)
    if len(rows) > MOST_ALLOWANCES:
        raise TooMany(MOST_ALLOWANCES)


def ordered(rows):
    """The tuple of different allowances in the order in which a book tells them."""
    keys = [(part, plain, since, NO_END if till is None else till) for part, plain, since, till in rows]
    ends = sorted(set(keys))
    return tuple([(part, plain, since, None if end == NO_END else end) for part, plain, since, end in ends])


def stand_ins(rows, plain, date):
    """The parts that the allowances let stand for a plain part itself at a date."""
    found = []
    for part, other, since, till in rows:
        if other == plain and since <= date and (till is None or date <= till):
            found.append(part)
    return found


class Allowances:
    """A book of allowances. It never changes."""

    def __init__(self, rows=(), *, through=False):
        check_allowances(rows)
        self._rows = ordered(rows)
        self._through = through

    @property
    def through(self):
        """Whether parts that stand for stand-ins are candidates, too."""
        return self._through

    def rows(self):
        """The allowances by part, plain part, since and till, None behind all dates."""
        return list(self._rows)

    def __call__(self, plain, date):
        """The tuple of the candidates for a plain part at a date."""
        if not is_date(date):
            raise BadDate(date)
        found = [plain]
        looked_at = 0
        while looked_at < len(found) and (self._through or looked_at == 0):
            new = stand_ins(self._rows, found[looked_at], date)
            for part in new:
                if part not in found:
                    found.append(part)
            looked_at += 1
        return (plain, *sorted(set(found[1:])))

    def dates(self):
        """0 and all later dates at which candidates may change, ascending."""
        begins = [since for _, _, since, _ in self._rows]
        behind = [till + 1 for _, _, _, till in self._rows if till is not None and till < LAST_DATE]
        return sorted(set([0] + begins + behind))

    def __len__(self):
        return len(self._rows)

    def __contains__(self, x):
        # True is equal to 1, so that only an allowance may be looked for among the rows.
        return is_allowance(x) and x in self._rows

    def __add__(self, other):
        return Allowances([*self._rows, other], through=self._through)

    def __or__(self, other):
        if not isinstance(other, Allowances):
            raise BadAllowances(other)
        new = [row for row in other._rows if row not in self._rows]
        return Allowances([*self._rows, *new], through=self._through or other._through)

    def __eq__(self, other):
        if not isinstance(other, Allowances):
            return False
        return self._rows == other._rows and self._through == other._through
