"""Slow and plain second versions for states, events and what they do.

Nothing here is imported from the package.
"""

import reference
import reference_choices
import reference_loops
import reference_rows

LETTERS = ("D", "L", "X")


def whole(thing, least):
    return type(thing) is int and thing >= least


def is_event(thing):
    if type(thing) is not tuple or not thing or type(thing[0]) is not str:
        return False
    word, parts = thing[0], thing[1:]
    if word == "lay":
        return len(parts) == 2 and whole(parts[0], 0) and parts[1] in LETTERS
    if word == "price":
        return len(parts) == 3 and all(whole(part, 0) for part in parts)
    if word in ("sectors", "smooth"):
        return len(parts) == 1 and whole(parts[0], 0)
    if word == "put":
        return len(parts) == 3 and whole(parts[0], 0) and whole(parts[1], 0) and parts[2] in LETTERS
    if word == "petal":
        return len(parts) == 3 and whole(parts[0], 0) and type(parts[1]) is int and parts[2] in LETTERS
    return word == "draw" and len(parts) == 1 and whole(parts[0], 1)


def refusal(state, event):
    pattern, laying, _, sectors = state
    if not is_event(event):
        return "event"
    word, many = event[0], len(laying)
    named = {"lay": event[1:2], "price": event[1:2], "smooth": event[1:2]}.get(word, ())
    ends = {"put": event[1:3], "petal": event[1:2]}.get(word, ())
    if any(crossing >= many for crossing in named) or any(end >= 4 * many for end in ends):
        return "crossing"
    if word == "smooth":
        if laying[event[1]] == "X":
            return "across"
        told = reference.smooth_word(pattern, event[1], laying[event[1]])
        return None if told == "sound" else told
    if word == "put":
        together = any(event[1] in face and event[2] in face for face in reference.faces(pattern))
        if event[1] == event[2] or not together:
            return "face"
    if word == "petal":
        face = next(face for face in reference.faces(pattern) if event[1] in face)
        if event[2] != 0 and event[2] != sum(pattern[corner][1] for corner in face):
            return "shift"
    if word == "draw" and sectors % event[1]:
        return "sectors"
    grown = {"put": many + 1, "petal": many + 1}.get(word, many)
    if word == "draw":
        grown = many * event[1]
    return "great" if grown > 12 else None


def after(state, event):
    """The state after an event that is not refused."""
    pattern, laying, prices, sectors = state
    word, at = event[0], event[1]
    if word == "lay":
        return pattern, reference_choices.with_letter(laying, at, event[2]), prices, sectors
    if word == "price":
        return pattern, laying, tuple(event[2:] if c == at else pair for c, pair in enumerate(prices)), sectors
    if word == "sectors":
        return pattern, laying, prices, at
    if word == "smooth":
        left = [c for c in range(len(laying)) if c != at]
        lines, _ = reference.contracted(pattern, at, laying[at])
        return (reference.numbered(lines, left), "".join(laying[c] for c in left), tuple(prices[c] for c in left), sectors)
    if word == "draw":
        return reference.drawing(pattern, at), laying * at, prices * at, sectors // at
    grown = reference.put_in(pattern, at, event[2]) if word == "put" else reference.petal_on(pattern, at, event[2])
    return grown, laying + event[3], prices + ((0, 0),), sectors


def report(state):
    pattern, laying, prices, sectors = state
    windings = reference.windings(pattern, laying)
    threads = tuple(sorted(reference_loops.threads(windings, sectors).items())) if sectors else None
    price = None if "X" in laying else reference_choices.price(prices, laying)
    told = (len(laying), reference.cut(pattern), sectors)
    return told, windings, threads, reference_rows.ring_numbers(pattern), price


def start(pattern):
    many = len(pattern) // 4
    return pattern, "L" * many, ((0, 0),) * many, 1


def some_event(dice, state):
    """An event of any word, more often one that can happen than not."""
    pattern, laying, _, sectors = state
    end, at = dice.randrange(len(pattern) + 1), dice.randrange(len(laying))
    face = dice.choice(reference.faces(pattern))
    letter = dice.choice("DDLLX")
    return dice.choice((
        ("lay", at, letter), ("lay", at, letter), ("lay", end, letter), ("price", at, dice.randrange(9), dice.randrange(9)),
        ("price", end, 1, 2), ("sectors", dice.choice((0, 1, 4, 6, 12, 35))), ("smooth", at), ("smooth", at), ("smooth", end),
        ("put", dice.choice(face), dice.choice(face), letter), ("put", dice.choice(face), dice.choice(face), letter),
        ("put", end, 0, letter), ("petal", dice.choice(face), 0, letter), ("petal", end, dice.choice((-1, 0, 1, 2)), letter),
        ("draw", dice.choice((1, 2, 3, 6))), ("draw", 0), ("lay", at, "Y"), ("undo", 1), None))


def bench_states(dice, many):
    """States come to by so many events each, from those of one crossing on, with at most eight crossings."""
    from samples import FOUR, GROWN, LEAF, ONES, THREE, TWO
    found = []
    for pattern in (TWO, THREE, FOUR, LEAF, ONES[3], ONES[-1], *GROWN[::5]):
        state = start(pattern)
        for _ in range(many):
            event = some_event(dice, state)
            if refusal(state, event) is None and len(after(state, event)[1]) <= 8:
                state = after(state, event)
            found.append(state)
    return found
