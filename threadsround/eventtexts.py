"""Events as lines of text."""

from threadsround.benchevents import FORMS, is_event, is_part
from threadsround.errors import InvalidText
from threadsround.needs import need
from threadsround.patterntexts import is_decimal


def integer_told(field):
    """The integer that field tells, or None if it is not written so."""
    if field.startswith("-"):
        size = field[1:]
        return -int(size) if is_decimal(size) and size != "0" else None
    return int(field) if is_decimal(field) else None


def part_told(kind, field):
    """The part of this kind that field tells, or None if it cannot stand there."""
    part = field if kind == "letter" else integer_told(field)
    return part if is_part(kind, part) else None


def parts_told(form, fields, line):
    """The tuple of the word and the parts that fields tell by this form, None for a word that is none."""
    if form is None:
        raise InvalidText(line, 0)
    told = [fields[0]]
    for i in range(1, len(form) + 1):
        part = part_told(form[i - 1], fields[i]) if i < len(fields) else None
        if part is None:
            raise InvalidText(line, i)
        told.append(part)
    if len(fields) > len(told):
        raise InvalidText(line, len(told))
    return tuple(told)


def event_line(event):
    """The elements of the event, parted by one space."""
    need(is_event(event), "event")
    return " ".join([str(part) for part in event])


def read_event(text):
    """The event that text tells."""
    need(isinstance(text, str), "text")
    fields = text.split(" ")
    return parts_told(FORMS.get(fields[0]), fields, 0)
