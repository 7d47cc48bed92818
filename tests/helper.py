"""What the tests share: calls written as numbers, answers taken apart, and slow answers to compare with."""

from itertools import combinations

from sortedcopies.relation import answers

GREATEST = 2000000000
LEAST = -2000000000


def begin(columns):
    return [0, columns]


def search(*columns):
    return [1, len(columns)] + list(columns)


def orders():
    return [2]


def serves(which):
    return [3, which]


def apart():
    return [4]


def joined(calls):
    return [number for call in calls for number in call]


def parted(numbers):
    """The answers, one list each, of what is given back for all calls."""
    parts = []
    at = 0
    while at < len(numbers):
        end = at + 1 + numbers[at]
        if numbers[at] < 1 or end > len(numbers):
            raise AssertionError(f"a wrong count at {at} of {numbers}")
        parts.append(numbers[at + 1:end])
        at = end
    return parts


def ask(*calls):
    """The answers to these calls, one list each."""
    handed = joined(calls)
    kept = list(handed)
    given = answers(handed)
    if handed != kept:
        raise AssertionError(f"{kept} was changed to {handed}")
    if type(given) is not list or any(type(number) is not int for number in given):
        raise AssertionError(f"not a list of whole numbers: {given}")
    parts = parted(given)
    if len(parts) != len(calls):
        raise AssertionError(f"{len(calls)} calls, but {len(parts)} answers")
    return parts


def told(columns, searches, *calls):
    """The answers to these calls on a relation that has these searches."""
    made = [begin(columns)] + [search(*known) for known in searches]
    given = ask(*made, *calls)
    if given[:len(made)] != [[0]] + [[number] for number in range(len(searches))]:
        raise AssertionError(f"not all taken: {given[:len(made)]}")
    return given[len(made):]


def all_links(searches, at=0, taken=()):
    """All ways to link the searches from number `at` on; who has no next one has len(searches)."""
    if at == len(searches):
        yield ()
        return
    for rest in all_links(searches, at + 1, taken):
        yield (len(searches),) + rest
    for other, columns in enumerate(searches):
        if other not in taken and set(searches[at]) < set(columns):
            for rest in all_links(searches, at + 1, taken + (other,)):
                yield (other,) + rest


def slow_chains(searches):
    """The chains: of all ways with the most links the first, where none comes behind every number."""
    none = len(searches)
    links = min(all_links(searches), key=lambda way: (way.count(none), way))
    chains = []
    for first in range(none):
        if first not in links:
            chain = []
            while first != none:
                chain.append(first)
                first = links[first]
            chains.append(chain)
    return chains


def slow_orders(columns, searches, chains):
    answer = []
    for chain in chains:
        # A column stands by the first search of the chain that has it, then by its number.
        def rank(column):
            having = [place for place, one in enumerate(chain) if column in searches[one]]
            return (min(having, default=len(chain)), column)
        answer += sorted(range(columns), key=rank)
    return [len(chains)] + answer


def slow_serves(searches, chains, which):
    holding = [number for number, chain in enumerate(chains) if which in chain]
    return holding + [len(searches[which])]


def slow_apart(searches):
    """The first of the greatest sets of which none lies in another one."""
    for size in range(len(searches), -1, -1):
        for chosen in combinations(range(len(searches)), size):
            sets = [set(searches[one]) for one in chosen]
            if not any(one < other for one in sets for other in sets):
                return [size] + list(chosen)
