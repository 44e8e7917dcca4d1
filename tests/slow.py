"""Letters as point 4 tells them, one arrival after the other."""


def arrivals(orders, address, day):
    """All arrivals of a letter."""
    found = [(address, day)]
    while True:
        nexts = [(target, day + way) for source, target, first, last, way in orders
                 if source == address and first <= day <= last]
        if not nexts:
            return found
        address, day = nexts[0]
        found.append((address, day))


def first_common(orders, one, other):
    """The first arrival that two letters share, or None."""
    others = set(arrivals(orders, *other))
    for arrival in arrivals(orders, *one):
        if arrival in others:
            return arrival
    return None


def random_orders(chance, names, days, longest):
    """Orders that a book can have: for each name some, one after the other, up to a day."""
    orders = []
    for source in names:
        first = chance.randrange(5)
        while first < days:
            last = first + chance.randrange(days // 3)
            target = chance.choice([name for name in names if name != source])
            orders.append((source, target, first, last, chance.randint(1, longest)))
            first = last + chance.choice((1, 1, 1, 3, 9))
    chance.shuffle(orders)
    return orders[:30]
