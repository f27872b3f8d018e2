"""A pattern with its prices, as an object."""

from threadsround.cheapest import cheapest_laying, is_cheapest_one, least_price
from threadsround.exchanges import better_exchange, exchange_way
from threadsround.manners import manner_count, need_manner
from threadsround.needs import is_crossing, need
from threadsround.patternchecker import is_pattern
from threadsround.prices import is_price_pair, need_prices
from threadsround.roundprices import keeping_price, round_price
from threadsround.spans import span_by


class Choice:
    """What is the cheapest, for a pattern and prices."""

    def __init__(self, pattern, prices):
        need(is_pattern(pattern), "pattern")
        need_prices(pattern, prices)
        self._pattern = pattern
        self._prices = prices

    @property
    def priced(self):
        """The prices."""
        return self._prices

    def __eq__(self, other):
        return isinstance(other, Choice) and self._pattern == other._pattern and self._prices == other._prices

    def best(self, manner):
        """A cheapest laying of the manner."""
        return cheapest_laying(self._pattern, manner, self._prices)

    def least(self, manner):
        """The price of a cheapest laying of the manner."""
        return least_price(self._pattern, manner, self._prices)

    def ways_to(self, manner):
        """How many layings are of the manner."""
        return manner_count(self._pattern, manner)

    def better(self, manner, laying):
        """An exchange that leads to a cheaper laying of the manner, or None."""
        return better_exchange(self._pattern, manner, self._prices, laying)

    def span(self, manner, crossing, *, laying):
        """The span of price_span for a cheapest laying of the manner."""
        need_manner(manner)
        need(is_crossing(self._pattern, crossing), "crossing")
        need(is_cheapest_one(self._pattern, manner, self._prices, laying), "laying")
        return span_by(self._pattern, manner, self._prices, laying, crossing)

    def lead(self, manner, one, other):
        """Exchanges that lead from one laying of the manner to the other one."""
        return exchange_way(self._pattern, manner, one, other)

    def for_all(self, sectors, manner):
        """The price of a cheapest laying of the manner in the drawing of sectors."""
        return round_price(self._pattern, sectors, manner, self._prices)

    def keeping(self, sectors, manner):
        """How much more it costs to keep all sectors alike, or None."""
        return keeping_price(self._pattern, sectors, manner, self._prices)

    def repriced(self, crossing, pair):
        """A new Choice with other prices of the crossing."""
        need(is_crossing(self._pattern, crossing), "crossing")
        need(is_price_pair(pair), "pair")
        return Choice(self._pattern, self._prices[:crossing] + (pair,) + self._prices[crossing + 1:])
