"""A relation, its searches, the fewest orders that serve them all, and its rows as they stand in these."""

BEGIN = 0
SEARCH = 1
ORDERS = 2
SERVES = 3
APART = 4
PUT = 5
TAKE = 6
FIND = 7
NEXT = 8
PLACE = 9

# By a call's number: how many whole numbers it has, and how many lists behind them.
CALL_NUMBERS = (1, 0, 0, 1, 0, 0, 0, 1, 1, 1)
CALL_LISTS = (0, 1, 0, 0, 0, 1, 1, 1, 2, 1)

MOST_COLUMNS = 7
MOST_SEARCHES = 10
MOST_ROWS = 60
LEAST_VALUE = -1000000000
GREATEST_VALUE = 1000000000

WRONG = -1
NO_SUCH = -2
THERE_ALREADY = -3
NO_ROW = -4
FULL = -6
NO_RELATION = -9


def answers(calls):
    """The answers to all calls: of each how many numbers it has, then these."""
    reader = CallReader(calls)
    relation = Relation()
    given = []
    while reader.has_more():
        answer = answer_call(reader, relation)
        given.append(len(answer))
        given.extend(answer)
    return given


def answer_call(reader, relation):
    """Read one call and answer it."""
    call = reader.take_number()
    numbers = reader.take_numbers(CALL_NUMBERS[call])
    lists = reader.take_lists(CALL_LISTS[call])
    if call == BEGIN:
        return relation.begin(numbers[0])
    if not relation.is_there():
        return [NO_RELATION]
    if call == SEARCH:
        return relation.search(lists[0])
    if call == ORDERS:
        return relation.orders()
    if call == SERVES:
        return relation.serves(numbers[0])
    if call == APART:
        return relation.apart()
    if call == PUT:
        return relation.put(lists[0])
    if call == TAKE:
        return relation.take(lists[0])
    if call == FIND:
        return relation.find_rows(numbers[0], lists[0])
    if call == NEXT:
        return relation.next_row(numbers[0], lists[0], lists[1])
    return relation.place(numbers[0], lists[0])


class CallReader:
    """Walks the list of calls, and only ever copies out of it."""

    def __init__(self, calls):
        self.calls = calls
        self.at = 0

    def has_more(self):
        return self.at < len(self.calls)

    def take_number(self):
        number = self.calls[self.at]
        self.at = self.at + 1
        return number

    def take_numbers(self, how_many):
        numbers = self.calls[self.at:self.at + how_many]
        self.at = self.at + how_many
        return numbers

    def take_lists(self, how_many):
        lists = []
        for turn in range(how_many):
            lists.append(self.take_numbers(self.take_number()))
        return lists


class Relation:
    """The method of each call gives back all numbers of its answer."""

    def __init__(self):
        # No relation has 0 columns, so 0 stands for one that isn't there.
        self.columns = 0
        self.searches = []
        self.rows = []

    def is_there(self):
        return self.columns > 0

    def has_search(self, which):
        return which >= 0 and which < len(self.searches)

    def has_values(self, which, wanted):
        """Whether these are as many values as the search has columns."""
        return are_values(wanted, len(self.searches[which]))

    def is_row(self, row):
        return are_values(row, self.columns)

    def begin(self, columns):
        if columns < 1 or columns > MOST_COLUMNS:
            return [WRONG]
        self.columns = columns
        self.searches = []
        self.rows = []
        return [0]

    def search(self, known):
        if not are_columns(known, self.columns):
            return [WRONG]
        if known in self.searches:
            return [THERE_ALREADY]
        if len(self.searches) == MOST_SEARCHES:
            return [FULL]
        self.searches.append(known)
        return [len(self.searches) - 1]

    def orders(self):
        return counted(self.all_orders())

    def serves(self, which):
        if not self.has_search(which):
            return [NO_SUCH]
        return [chain_with(which, chains_of(self.searches)), len(self.searches[which])]

    def apart(self):
        chosen = first_greatest_apart(self.searches)
        return [len(chosen)] + chosen

    def put(self, row):
        if not self.is_row(row):
            return [WRONG]
        if row in self.rows:
            return [0]
        if len(self.rows) == MOST_ROWS:
            return [FULL]
        self.rows.append(row)
        return [1]

    def take(self, row):
        if not self.is_row(row):
            return [WRONG]
        if row not in self.rows:
            return [0]
        self.rows.remove(row)
        return [1]

    def find_rows(self, which, wanted):
        if not self.has_search(which):
            return [NO_SUCH]
        if not self.has_values(which, wanted):
            return [WRONG]
        return counted(self.rows_with(which, wanted))

    def next_row(self, which, wanted, row):
        if not self.has_search(which):
            return [NO_SUCH]
        if not self.has_values(which, wanted) or not self.is_row(row):
            return [WRONG]
        order = self.order_with(which)
        for other in self.rows_with(which, wanted):
            if stands_ahead(row, other, order):
                return [self.columns] + other
        return [NO_ROW]

    def place(self, number, row):
        orders = self.all_orders()
        if number < 0 or number >= len(orders):
            return [NO_SUCH]
        if not self.is_row(row):
            return [WRONG]
        ahead = [other for other in self.rows if stands_ahead(other, row, orders[number])]
        return [1 if row in self.rows else 0, len(ahead)]

    def all_orders(self):
        return [order_of(chain, self.searches, self.columns) for chain in chains_of(self.searches)]

    def order_with(self, which):
        """The order of the search's own chain."""
        chains = chains_of(self.searches)
        return order_of(chains[chain_with(which, chains)], self.searches, self.columns)

    def rows_with(self, which, wanted):
        """The rows that have these values in the search's columns, as they stand in its order."""
        order = self.order_with(which)
        found = [row for row in self.rows if values_in(row, self.searches[which]) == wanted]
        return sorted(found, key=lambda row: values_in(row, order))


def counted(lists):
    """How many lists there are, then the numbers of each."""
    numbers = [len(lists)]
    for one in lists:
        numbers.extend(one)
    return numbers


def are_values(numbers, how_many):
    """Whether these are so many numbers, each of them a value."""
    if len(numbers) != how_many:
        return False
    return all([number >= LEAST_VALUE and number <= GREATEST_VALUE for number in numbers])


def values_in(row, columns):
    """The row's values in these columns, one behind another."""
    return [row[column] for column in columns]


def stands_ahead(row, other, order):
    """Whether the row stands ahead of the other one in this order."""
    return values_in(row, order) < values_in(other, order)


def are_columns(known, columns):
    """Whether these are columns, each lesser than the next."""
    lowest = 0
    for column in known:
        if column < lowest or column >= columns:
            return False
        lowest = column + 1
    return True


def lies_in(known, others):
    """Whether one search lies in another one; no search lies in itself."""
    return known != others and all([column in others for column in known])


def wider_searches(searches):
    """For each search the numbers of those in which it lies, ascending."""
    wider = []
    for known in searches:
        wider.append([number for number, others in enumerate(searches) if lies_in(known, others)])
    return wider


def give_next(one, wider, before, asked):
    """Give search `one` a next one, and those that stand in the way another one, if that can be."""
    for other in wider[one]:
        if other not in asked:
            asked[other] = True
            if other not in before or give_next(before[other], wider, before, asked):
                before[other] = one
                return True
    return False


def most_links(wider):
    """How many links can be had, if each search may be linked to its wider ones alone."""
    before = {}
    links = 0
    for one in range(len(wider)):
        if give_next(one, wider, before, {}):
            links = links + 1
    return links


def narrowed(wider, one, kept):
    """The wider ones, if search `one` has just the kept ones and no other search has these."""
    narrower = []
    for number, others in enumerate(wider):
        if number == one:
            narrower.append(kept)
        else:
            narrower.append([other for other in others if other not in kept])
    return narrower


def settled(wider, one, most):
    """The wider ones, narrowed to the next one of search `one`, or to none."""
    for other in wider[one]:
        narrower = narrowed(wider, one, [other])
        if most_links(narrower) == most:
            return narrower
    return narrowed(wider, one, [])


def links_of(searches):
    """For each search a list of its next one alone, or an empty list."""
    links = wider_searches(searches)
    most = most_links(links)
    for one in range(len(searches)):
        links = settled(links, one, most)
    return links


def chain_from(first, links):
    chain = [first]
    following = links[first]
    while following:
        chain.append(following[0])
        following = links[following[0]]
    return chain


def chains_of(searches):
    """The chains, each as the numbers of its searches."""
    links = links_of(searches)
    chains = []
    for one in range(len(searches)):
        if [one] not in links:
            chains.append(chain_from(one, links))
    return chains


def chain_with(which, chains):
    """The number of the chain that has this search."""
    holding = [number for number, chain in enumerate(chains) if which in chain]
    return holding[0]


def order_of(chain, searches, columns):
    """The order that serves the chain's searches."""
    order = []
    for one in chain:
        order = order + [column for column in searches[one] if column not in order]
    return order + [column for column in range(columns) if column not in order]


def is_apart(one, chosen, wider):
    """Whether search `one` lies in none of the chosen ones, and none of them in it."""
    return all([one not in wider[other] and other not in wider[one] for other in chosen])


def one_longer(sets, wider):
    """All sets apart that have one more, greater search than one of these.

    If these stand by the first number that differs, so do the longer ones.
    """
    longer = []
    for chosen in sets:
        start = chosen[-1] + 1 if chosen else 0
        for one in range(start, len(wider)):
            if is_apart(one, chosen, wider):
                longer.append(chosen + [one])
    return longer


def first_greatest_apart(searches):
    """The first of the greatest sets of searches of which none lies in another one."""
    wider = wider_searches(searches)
    sets = [[]]
    longer = one_longer(sets, wider)
    while longer:
        sets = longer
        longer = one_longer(sets, wider)
    return sets[0]
