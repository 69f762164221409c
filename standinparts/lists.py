"""Places, lists of parts, and catalogs of lists within lists."""

from standinparts.errors import BadList, BadPlace, RingOfLists, TooMany, UnknownList, UnknownPlace
from standinparts.words import LETTERS, is_integer, is_word

MOST_PLACES = 12
MOST_UNITS = 999
MOST_LISTS = 40


def is_place(value):
    """Whether any value is a place: (word, plain, number, share)."""
    if not isinstance(value, tuple) or len(value) != 4:
        return False
    word, plain, number, share = value
    if not is_word(word) or not is_word(plain) or not is_integer(number, 1, MOST_UNITS):
        return False
    return share is None or is_integer(share, 0, number)


def check_places(places):
    """Raises the error of the first thing that is wrong about the places of a list."""
    if not isinstance(places, (list, tuple)) or len(places) == 0:
        raise BadPlace(None)
    words = set()
    for index, place in enumerate(places):
        if not is_place(place) or place[0] in words:
            raise BadPlace(index)
        words.add(place[0])
    if len(places) > MOST_PLACES:
        raise TooMany(MOST_PLACES)


def times_share(share, number):
    """A share, or None for none, number times."""
    return None if share is None else share * number


class PartsList:
    """A list of places. It never changes."""

    def __init__(self, places):
        check_places(places)
        self._places = tuple([(word, plain, number, share) for word, plain, number, share in places])

    def places(self):
        """The places in order."""
        return list(self._places)

    def words(self):
        """The words of the places in order."""
        return [word for word, _, _, _ in self._places]

    def units(self):
        """How many units a made thing has."""
        return sum([number for _, _, number, _ in self._places])

    def __len__(self):
        return len(self._places)

    def __contains__(self, x):
        return is_word(x) and x in self.words()

    def __getitem__(self, at):
        if is_word(at):
            for place in self._places:
                if place[0] == at:
                    return place
        raise UnknownPlace(at)

    def __iter__(self):
        raise TypeError("a list of parts cannot be iterated")

    def __add__(self, other):
        if not isinstance(other, PartsList):
            raise BadList(other)
        return PartsList([*self._places, *other._places])

    def __mul__(self, other):
        if not is_integer(other, 1, MOST_UNITS):
            raise BadPlace(None)
        rows = [(word, plain, number * other, times_share(share, other))
                for word, plain, number, share in self._places]
        return PartsList(rows)

    def __rmul__(self, other):
        return self * other

    def __eq__(self, other):
        return isinstance(other, PartsList) and self._places == other._places


def count_places(lists, word, within, counts):
    """How many places the list of a word has with all lists put in.

    within has the words of the lists in which it stands, its own with them. What
    is found for other words is kept in counts, so that no list is looked at twice.
    """
    total = 0
    for _, plain, _, _ in lists[word].places():
        if plain in within:
            raise RingOfLists(plain)
        if plain not in lists:
            total += 1
        else:
            if plain not in counts:
                counts[plain] = count_places(lists, plain, (*within, plain), counts)
            total += counts[plain]
    return total


def put_in(lists, word, times):
    """The tuples (plain, number, share) of times as much of a list, with all lists put in."""
    rows = []
    for _, plain, number, share in lists[word].places():
        if plain in lists:
            rows.extend(put_in(lists, plain, times * number))
        else:
            rows.append((plain, times * number, times_share(share, times)))
    return rows


class Catalog:
    """Lists by words. It never changes."""

    def __init__(self, lists):
        if not isinstance(lists, dict):
            raise BadList(lists)
        for word, parts_list in lists.items():
            if not is_word(word):
                raise UnknownList(word)
            if not isinstance(parts_list, PartsList):
                raise BadList(parts_list)
        if len(lists) > MOST_LISTS:
            raise TooMany(MOST_LISTS)
        self._lists = {word: lists[word] for word in lists}

    def words(self):
        """The words of the lists, ascending."""
        return sorted(set(self._lists))

    def __len__(self):
        return len(self._lists)

    def __contains__(self, x):
        return is_word(x) and x in self._lists

    def __getitem__(self, at):
        if not is_word(at) or at not in self._lists:
            raise UnknownList(at)
        return self._lists[at]

    def __iter__(self):
        raise TypeError("a catalog cannot be iterated")

    def opened(self, word):
        """The list of a word with all lists within it put in, its places called a, b, c, .."""
        if word not in self:
            raise UnknownList(word)
        if count_places(self._lists, word, (word,), {}) > MOST_PLACES:
            raise TooMany(MOST_PLACES)
        rows = put_in(self._lists, word, 1)
        return PartsList([(letter, *row) for letter, row in zip(LETTERS, rows)])
