"""How far prices may go without a cheapest laying being one no more."""

from threadsround.cheapest import is_cheapest_one
from threadsround.exchanges import exchanges_by
from threadsround.manners import need_manner
from threadsround.needs import is_crossing, need
from threadsround.prices import need_prices


def span_by(pattern, manner, prices, laying, crossing):
    """The span of price_span, for parameters that are as stated."""
    differences = [dark - light for dark, light in prices]
    exchanges = exchanges_by(pattern, manner, laying)
    # The laying stays a cheapest one as long as no exchange makes it cheaper.
    if laying[crossing] == "D":
        others = [differences[into] for out, into in exchanges if out == crossing]
        return (None, min(others) if others != [] else None)
    others = [differences[out] for out, into in exchanges if into == crossing]
    return (max(others) if others != [] else None, None)


def price_span(pattern, manner, prices, laying, crossing):
    """How much more than L, at least and at most, D may cost at crossing for the laying to stay a cheapest one."""
    need_manner(manner)
    need_prices(pattern, prices)
    need(is_cheapest_one(pattern, manner, prices, laying), "laying")
    need(is_crossing(pattern, crossing), "crossing")
    return span_by(pattern, manner, prices, laying, crossing)
