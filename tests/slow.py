"""What the document tells of letters, one arrival after the other."""


def arrivals(orders, address, day, most=None):
    """All arrivals of a letter, or its first ones, at most so many."""
    found = [(address, day)]
    while True:
        if len(found) == most:
            return found
        nexts = [(target, day + way) for source, target, first, last, way in orders
                 if source == address and first <= day <= last]
        if not nexts:
            return found
        address, day = nexts[0]
        found.append((address, day))


def first_common(orders, one, other):
    """The first arrival that two letters share, or None."""
    others = set(arrivals(orders, *other))
    for arrival in arrivals(orders, *one):
        if arrival in others:
            return arrival
    return None


def daily_ends(orders, address, first, last):
    """The address at which each of daily letters ends."""
    return [arrivals(orders, address, day)[-1][0] for day in range(first, last + 1)]


def senders(orders, address, first, last):
    """The numbers of all orders that send on at least one of daily letters."""
    passed = [arrival for day in range(first, last + 1)
              for arrival in arrivals(orders, address, day)]
    return [index for index, order in enumerate(orders)
            if any(order[0] == source and order[2] <= day <= order[3] for source, day in passed)]


def ends_by_ways(orders, index, address, day):
    """A dict from each way that an order can have to the address at which a letter ends then."""
    found = {}
    for way in range(1, 31):
        changed = list(orders)
        changed[index] = (*orders[index][:4], way)
        found[way] = arrivals(changed, address, day)[-1][0]
    return found


def telling_day(orders, index, ways, address, limit):
    """The first day, up to a limit, on which letters end at several addresses by some ways."""
    for day in range(limit + 1):
        ends = ends_by_ways(orders, index, address, day)
        if len({ends[way] for way in ways}) > 1:
            return day
    return None


def prolonging(orders, address, day, goal, limit):
    """The orders that are prolonged for a letter, the day on which it ends at a goal, and all
    orders then; None if it does not come there up to a day."""
    orders = list(orders)
    needed = []
    while day <= limit:
        sending = [order for order in orders if order[0] == address and order[2] <= day <= order[3]]
        if address == goal and not sending:
            return needed, day, orders
        if not sending:
            ended = [(order[3], index) for index, order in enumerate(orders)
                     if order[0] == address and order[3] < day]
            if not ended:
                return None
            index = max(ended)[1]
            source, target, first, _, way = orders[index]
            orders[index] = (source, target, first, day, way)
            needed += [] if index in needed else [index]
            sending = [orders[index]]
        address, day = sending[0][1], day + sending[0][4]
    return None


class Post:
    """A post office that passes one day after the other."""

    def __init__(self, orders):
        self.orders = list(orders)
        self.today = 0
        self.letters = []

    def arrive(self, number, address):
        """Let a letter arrive today, and tell whether it rests."""
        for source, target, first, last, way in self.orders:
            if source == address and first <= self.today <= last:
                self.letters[number] = (target, self.today + way, False)
                return False
        self.letters[number] = (address, self.today, True)
        return True

    def post(self, address):
        self.letters.append(None)
        self.arrive(len(self.letters) - 1, address)
        return len(self.letters) - 1

    def pass_days(self, count):
        rested = []
        for _ in range(count):
            self.today += 1
            for number, (address, day, rests) in enumerate(self.letters):
                if not rests and day == self.today and self.arrive(number, address):
                    rested.append(number)
        return rested

    def give(self, order):
        self.orders.append(order)
        return len(self.orders) - 1

    def stop(self, index):
        source, target, first, last, way = self.orders[index]
        self.orders[index] = (source, target, first, self.today - 1, way)
        return last

    def allows(self, name, argument):
        """Tell whether an operation is possible, with an argument that is of the right form."""
        if name == "stop":
            orders = self.orders[argument:argument + 1]
            return any(first < self.today <= last for _, _, first, last, _ in orders)
        if name == "give":
            days = set(range(argument[2], argument[3] + 1))
            taken = [set(range(first, last + 1)) for source, _, first, last, _ in self.orders
                     if source == argument[0]]
            return len(self.orders) < 30 and argument[2] >= 0 and not days & set().union(*taken)
        return True


def random_orders(chance, names, days, longest):
    """Orders that a book can have: for each name some, one after the other, up to a day."""
    orders = []
    for source in names:
        first = chance.randrange(5)
        while first < days:
            last = first + chance.randrange(days // 3)
            target = chance.choice([name for name in names if name != source])
            orders.append((source, target, first, last, chance.randint(1, longest)))
            first = last + chance.choice((1, 1, 1, 3, 9))
    chance.shuffle(orders)
    return orders[:30]
