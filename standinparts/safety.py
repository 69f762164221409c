"""Safety: which units still fit where they were dealt, however long they wait."""

from standinparts.errors import BadWait
from standinparts.words import LAST_DATE, is_integer


def check_wait(wait):
    """Raises BadWait for any value that is no wait."""
    if not is_integer(wait, 0, LAST_DATE):
        raise BadWait(wait)


def is_safe(allowances, part, plain, date, wait):
    """Whether a unit of a part, dealt for a plain part at a date, is a candidate on each day of the wait."""
    check_wait(wait)
    dates = [date] + [later for later in allowances.dates() if date < later <= date + wait]
    return all([part in allowances(plain, day) for day in dates])


def safe_parts(allowances, plain, date, wait):
    """The tuple of the candidates at a date that are safe, the plain part first."""
    check_wait(wait)
    return tuple([part for part in allowances(plain, date) if is_safe(allowances, part, plain, date, wait)])


def fitting_spans(allowances, part, plain):
    """The longest spans (since, till) of dates at which a part is a candidate; till is None without an end."""
    spans = []
    since = None
    for date in allowances.dates():
        fits = part in allowances(plain, date)
        if fits and since is None:
            since = date
        elif not fits and since is not None:
            spans.append((since, date - 1))
            since = None
    if since is not None:
        spans.append((since, None))
    return spans


def safe_spans(allowances, part, plain, wait):
    """The longest spans (since, till) of dates at which dealing a part is safe, ascending."""
    check_wait(wait)
    spans = []
    for since, till in fitting_spans(allowances, part, plain):
        if till is None:
            spans.append((since, None))
        elif since <= till - wait:
            spans.append((since, till - wait))
    return spans
