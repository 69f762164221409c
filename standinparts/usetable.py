"""Tables of uses: which parts are candidates of which places, from which dates on."""


class UseTable:
    """The candidates of all places of a list at some dates, and which uses each part has. It never changes."""

    def __init__(self, parts_list, allowances, dates):
        self._spots = parts_list.words()
        self._days = list(dates)
        self._fits = {}
        # A part's uses are the bits of a number, by dates and then by places, the earliest one lowest: so the uses
        # from a date on are what stands from a bit on, and sets of uses are compared at once.
        self._bits = {}
        bit = 1
        for date in dates:
            for word, plain, _, _ in parts_list.places():
                fits = allowances(plain, date)
                self._fits[(word, date)] = fits
                for part in fits:
                    self._bits[part] = self._bits.get(part, 0) + bit
                bit = bit * 2
        self._begins = {date: at * len(self._spots) for at, date in enumerate(self._days)}

    def days(self):
        """The dates, in order."""
        return list(self._days)

    def fits(self, word, date):
        """The candidates of a place at one of the dates, the plain part first."""
        return self._fits[(word, date)]

    def ever_fits(self, word):
        """The parts that are candidates of a place at some of the dates, ascending."""
        return sorted(set([part for date in self._days for part in self._fits[(word, date)]]))

    def use_beyond(self, part, other, date):
        """The first use (word, date) of a part, from one of the dates on, that another part has not, or None."""
        bits = self._bits[part]
        begin = self._begins[date]
        beyond = (bits - (bits & self._bits[other])) >> begin
        if beyond == 0:
            return None
        at = begin + (beyond & -beyond).bit_length() - 1
        return self._spots[at % len(self._spots)], self._days[at // len(self._spots)]
