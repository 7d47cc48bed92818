"""What the tests share: calls written as numbers, answers taken apart, and slow answers to compare with."""

from functools import lru_cache
from itertools import combinations

from sortedcopies.relation import answers

GREATEST = 2000000000
LEAST = -2000000000
GREATEST_VALUE = 1000000000
LEAST_VALUE = -1000000000


def begin(columns):
    return [0, columns]


def search(*columns):
    return [1, len(columns)] + list(columns)


def orders():
    return [2]


def serves(which):
    return [3, which]


def apart():
    return [4]


def put(*row):
    return [5, len(row)] + list(row)


def take(*row):
    return [6, len(row)] + list(row)


def find(which, *values):
    return [7, which, len(values)] + list(values)


def next_row(which, values, row):
    return [8, which, len(values)] + list(values) + [len(row)] + list(row)


def place(order, *row):
    return [9, order, len(row)] + list(row)


def joined(calls):
    return [number for call in calls for number in call]


def parted(numbers):
    """The answers, one list each, of what is given back for all calls."""
    parts = []
    at = 0
    while at < len(numbers):
        end = at + 1 + numbers[at]
        if numbers[at] < 1 or end > len(numbers):
            raise AssertionError(f"a wrong count at {at} of {numbers}")
        parts.append(numbers[at + 1:end])
        at = end
    return parts


def ask(*calls):
    """The answers to these calls, one list each."""
    handed = joined(calls)
    kept = list(handed)
    given = answers(handed)
    if handed != kept:
        raise AssertionError(f"{kept} was changed to {handed}")
    if answers(handed) != given:
        raise AssertionError(f"{kept} is answered otherwise the second time")
    if type(given) is not list or any(type(number) is not int for number in given):
        raise AssertionError(f"not a list of whole numbers: {given}")
    parts = parted(given)
    if len(parts) != len(calls):
        raise AssertionError(f"{len(calls)} calls, but {len(parts)} answers")
    return parts


def told(columns, searches, *calls):
    """The answers to these calls on a relation that has these searches."""
    made = [begin(columns)] + [search(*known) for known in searches]
    given = ask(*made, *calls)
    if given[:len(made)] != [[0]] + [[number] for number in range(len(searches))]:
        raise AssertionError(f"not all taken: {given[:len(made)]}")
    return given[len(made):]


# The chains are 0, 1, 3 and 2 alone, so the orders are 1, 0, 2 and 2, 0, 1.
SEARCHES = [[1], [0, 1], [2], [0, 1, 2]]
ROWS = [[5, 1, 7], [3, 1, 9], [3, 1, -2], [4, 0, 9], [-5, 1, 9]]


def with_rows(*calls):
    """The answers to these calls on a relation that has the searches and rows above."""
    return told(3, SEARCHES, *[put(*row) for row in ROWS], *calls)[len(ROWS):]


def found(*rows):
    """What find answers if it finds these rows."""
    return [len(rows)] + joined(rows)


def wrong_rows(*right):
    """What is no row, of a relation in which this is one."""
    wrong = [[], right[:-1], right + (0,), right + right, (0,) * 30, (GREATEST,) * 30]
    for at in range(len(right)):
        for number in (GREATEST_VALUE + 1, LEAST_VALUE - 1, GREATEST, LEAST):
            wrong.append(right[:at] + (number,) + right[at + 1:])
    return wrong


def all_links(searches, at=0, taken=()):
    """All ways to link the searches from number `at` on; who has no next one has len(searches)."""
    if at == len(searches):
        yield ()
        return
    for rest in all_links(searches, at + 1, taken):
        yield (len(searches),) + rest
    for other, columns in enumerate(searches):
        if other not in taken and set(searches[at]) < set(columns):
            for rest in all_links(searches, at + 1, taken + (other,)):
                yield (other,) + rest


def slow_chains(searches):
    """The chains: of all ways with the most links the first, where none comes behind every number."""
    none = len(searches)
    links = min(all_links(searches), key=lambda way: (way.count(none), way))
    chains = []
    for first in range(none):
        if first not in links:
            chain = []
            while first != none:
                chain.append(first)
                first = links[first]
            chains.append(chain)
    return chains


def slow_orders(columns, searches, chains):
    answer = []
    for chain in chains:
        # A column stands by the first search of the chain that has it, then by its number.
        def rank(column):
            having = [place for place, one in enumerate(chain) if column in searches[one]]
            return (min(having, default=len(chain)), column)
        answer += sorted(range(columns), key=rank)
    return [len(chains)] + answer


def slow_serves(searches, chains, which):
    holding = [number for number, chain in enumerate(chains) if which in chain]
    return holding + [len(searches[which])]


def slow_apart(searches):
    """The first of the greatest sets of which none lies in another one."""
    for size in range(len(searches), -1, -1):
        for chosen in combinations(range(len(searches)), size):
            sets = [set(searches[one]) for one in chosen]
            if not any(one < other for one in sets for other in sets):
                return [size] + list(chosen)


@lru_cache(maxsize=None)
def kept_chains(searches):
    """The slow chains, gone through once for the same searches."""
    return slow_chains([list(known) for known in searches])


def stands_ahead(row, other, order):
    differing = [column for column in order if row[column] != other[column]]
    return differing != [] and row[differing[0]] < other[differing[0]]


class SlowRelation:
    """Answers calls by the document's words, one after another; a call is its name and what is handed in."""

    def __init__(self):
        self.columns = None
        self.searches = []
        self.rows = []

    def answer(self, name, *handed):
        if name != "begin" and self.columns is None:
            return [-9]
        return getattr(self, name)(*handed)

    def is_row(self, row, size):
        return len(row) == size and all(abs(number) <= 10 ** 9 for number in row)

    def chains(self):
        return kept_chains(tuple(tuple(known) for known in self.searches))

    def all_orders(self):
        listed = slow_orders(self.columns, self.searches, self.chains())[1:]
        return [listed[at:at + self.columns] for at in range(0, len(listed), self.columns)]

    def own_order(self, which):
        return self.all_orders()[slow_serves(self.searches, self.chains(), which)[0]]

    def fitting(self, which, values):
        """The rows that fit, each put where as many stand ahead of it as do."""
        fit = [row for row in self.rows if [row[column] for column in self.searches[which]] == list(values)]
        standing = [None] * len(fit)
        for row in fit:
            standing[sum(stands_ahead(other, row, self.own_order(which)) for other in fit)] = row
        return standing

    def begin(self, columns):
        if columns not in range(1, 8):
            return [-1]
        self.__init__()
        self.columns = columns
        return [0]

    def search(self, *known):
        if list(known) != [column for column in range(self.columns) if column in known]:
            return [-1]
        if known in self.searches:
            return [-3]
        if len(self.searches) >= 10:
            return [-6]
        self.searches.append(known)
        return [self.searches.index(known)]

    def orders(self):
        return slow_orders(self.columns, self.searches, self.chains())

    def serves(self, which):
        if which not in range(len(self.searches)):
            return [-2]
        return slow_serves(self.searches, self.chains(), which)

    def apart(self):
        return slow_apart(self.searches)

    def put(self, *row):
        if not self.is_row(row, self.columns):
            return [-1]
        if row in self.rows:
            return [0]
        if len(self.rows) >= 60:
            return [-6]
        self.rows.append(row)
        return [1]

    def take(self, *row):
        if not self.is_row(row, self.columns):
            return [-1]
        before = len(self.rows)
        self.rows = [other for other in self.rows if other != row]
        return [before - len(self.rows)]

    def find(self, which, *values):
        if which not in range(len(self.searches)):
            return [-2]
        if not self.is_row(values, len(self.searches[which])):
            return [-1]
        return found(*self.fitting(which, values))

    def next_row(self, which, values, row):
        first = self.find(which, *values)
        if first[0] < 0:
            return first
        if not self.is_row(row, self.columns):
            return [-1]
        for other in self.fitting(which, values):
            if stands_ahead(row, other, self.own_order(which)):
                return [self.columns, *other]
        return [-4]

    def place(self, order, *row):
        if order not in range(len(self.chains())):
            return [-2]
        if not self.is_row(row, self.columns):
            return [-1]
        ahead = [other for other in self.rows if stands_ahead(other, row, self.all_orders()[order])]
        return [int(row in self.rows), len(ahead)]
