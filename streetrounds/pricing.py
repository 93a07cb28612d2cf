"""Prices of corners, which show that times of one-way streets are least."""

from streetrounds.checks import check_times, check_town, is_whole
from streetrounds.errors import NotOneWay
from streetrounds.flows import all_changes, cheapest_changes, spare_of
from streetrounds.rounds import check_round, least, length
from streetrounds.steps import all_hops, gone_by

MOST_PRICE = 99999


def priced(town):
    """Tell prices, the least of them 0, that show a least round's times least."""
    check_town(town)
    corners, streets = town
    check_round(corners, streets)
    check_one_way(streets)
    _, times = least(town)
    hops = all_hops(streets)
    more = [count - 1 for count in gone_by(hops, times)]
    # What a unit costs at least, whichever corner it comes from, can't be made
    # cheaper by any change: so no street's long is less than its prices' rise,
    # and where the street is gone anew they rise by just that.
    prices, _ = cheapest_changes(corners, all_changes(hops, more), [1] * corners)
    lowest = min(prices)
    return tuple([price - lowest for price in prices])


def shows(town, times, prices):
    """Tell whether the prices show that the times of the town are least."""
    check_town(town)
    corners, streets = town
    check_one_way(streets)
    check_times(times, streets)
    if not are_prices(prices, corners) or not are_round_times(corners, streets, times):
        return False
    if not are_kept_to(streets, prices):
        return False
    return length_gone_anew(streets, times) == worth(streets, prices)


def check_one_way(streets):
    """Refuse a two-way street by NotOneWay, with the number of the first."""
    for number, street in enumerate(streets):
        if street[3] == 0:
            raise NotOneWay(number)


def are_prices(thing, corners):
    """Tell whether thing is a tuple of a price for each of so many corners."""
    if not isinstance(thing, tuple) or len(thing) != corners:
        return False
    return all(is_whole(price, -MOST_PRICE, MOST_PRICE) for price in thing)


def are_round_times(corners, streets, times):
    """Tell whether each street is gone, and each corner left as often as come to."""
    hops = all_hops(streets)
    gone = gone_by(hops, times)
    return all(count > 0 for count in gone) and not any(spare_of(corners, hops, gone))


def are_kept_to(streets, prices):
    """Tell whether no street's to-corner has a price more than long above its from-corner's."""
    return all(prices[end] - prices[begin] <= long for begin, end, long, _ in streets)


def length_gone_anew(streets, times):
    """Tell the lengths of all that is gone besides each street's first time."""
    return length(streets, times) - sum(street[2] for street in streets)


def worth(streets, prices):
    """Tell the sum of each corner's price times how many more streets begin there than end."""
    return sum(prices[begin] - prices[end] for begin, end, _, _ in streets)
