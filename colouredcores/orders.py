"""Orders of jobs, told by the jobs' colours, and what they waste."""


def change_waste(between, now, colour):
    if now is None:
        return 0
    return between[now][colour]


def row_waste(between, now, colours):
    total = 0
    last = now
    for colour in colours:
        total += change_waste(between, last, colour)
        last = colour
    return total


def order_waste(between, now, colours, order):
    return row_waste(between, now, [colours[j] for j in order])


def one_longer(orders, count):
    longer = []
    for order in orders:
        for j in range(count):
            if j not in order:
                longer.append(order + [j])
    return longer


def all_orders(count):
    # They come rising, job by job: of like orders the one met first is the best.
    orders = [[]]
    for done in range(count):
        orders = one_longer(orders, count)
    return orders


def best_order(between, now, colours):
    best = None
    least = 0
    for order in all_orders(len(colours)):
        waste = order_waste(between, now, colours, order)
        if best is None or waste < least:
            best = order
            least = waste
    return best


def least_waste(between, now, colours):
    return order_waste(between, now, colours, best_order(between, now, colours))
