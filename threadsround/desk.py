"""A desk that hears events and questions as texts, and answers."""

from threadsround.bench import Bench
from threadsround.benchevents import FORMS
from threadsround.errors import InvalidEvent, NothingToUndo, NotUsable
from threadsround.eventtexts import parts_told
from threadsround.needs import need
from threadsround.patternchecker import is_pattern
from threadsround.states import start_state

# What stands behind each word that begins no event.
ORDERS = {"undo": ("count",), "cut": (), "windings": (), "threads": (), "row": (), "cost": (), "tally": ()}


def order_told(text, line):
    """The event, or the tuple of another word and what stands behind it, that text tells; it is text number line."""
    fields = text.split(" ")
    word = fields[0]
    return parts_told(ORDERS[word] if word in ORDERS else FORMS.get(word), fields, line)


def numbers_line(numbers):
    """The numbers, parted by one space."""
    return " ".join([str(number) for number in numbers])


def threads_line(threads):
    """The pairs of threads, parted by one space, or "none"."""
    if threads is None:
        return "none"
    return " ".join([f"{winding}x{many}" for winding, many in threads])


class Desk:
    """A bench of its own, and what was said to it."""

    def __init__(self, pattern):
        need(is_pattern(pattern), "pattern")
        self._bench = Bench(start_state(pattern))
        self._answers = ()

    @property
    def now(self):
        """The state of the bench."""
        return self._bench.now

    @property
    def log(self):
        """The pairs (text, answer) of all texts that had an answer."""
        return self._answers

    def hear(self, text):
        """Hear one text; the answer to it."""
        need(isinstance(text, str), "text")
        answer = self._answer(order_told(text, 0))
        self._answers = (*self._answers, (text, answer))
        return answer

    def hear_all(self, *texts):
        """Hear the texts in turn, if all are well written; the answers to them."""
        for k, text in enumerate(texts):
            if not isinstance(text, str):
                raise NotUsable("texts", k)
            order_told(text, k)
        for text in texts:
            yield self.hear(text)

    def _answer(self, order):
        """The answer to what was said."""
        if order[0] == "undo":
            return self._answer_undo(order[1])
        return self._answer_word(order[0]) if order[0] in ORDERS else self._answer_event(order)

    def _answer_event(self, event):
        """The answer to an event."""
        try:
            self._bench.go(event)
        except InvalidEvent as refusal:
            return f"refused {refusal.reason}"
        return "done"

    def _answer_undo(self, many):
        """The answer to an undo."""
        try:
            self._bench.undo(many)
        except NothingToUndo as refusal:
            return f"refused {refusal.steps}"
        return "undone"

    def _answer_word(self, word):
        """What the bench tells."""
        bench = self._bench
        if word == "threads":
            return threads_line(bench.threads_now())
        if word == "cut":
            return str(bench.cut_now())
        if word == "windings":
            return numbers_line(bench.windings_now())
        if word == "row":
            return numbers_line(bench.row_now())
        if word == "tally":
            return numbers_line(bench.tally)
        price = bench.price_now()
        return "none" if price is None else str(price)
