"""What the document's words say of edits, written down a second time and in another way than the program does.

An edit is (items, octets) here, as set takes it. A text is a list of tokens, which tell each byte apart whatever its
value: ("old", p), or (name, n) for the n-th new byte of the edit that the name stands for.
"""

import itertools
import random

from tests.line import DROP, KEEP, PUT


def pairs_of(numbers):
    return list(zip(numbers[0::2], numbers[1::2]))


def meaning(items):
    """An old text's length and what is said of each new byte, straight from the document's words."""
    old_at = 0
    put_at = 0
    said = []
    for kind, count in pairs_of(items):
        for step in range(count):
            if kind == PUT:
                said.append(("new", put_at))
                put_at += 1
            else:
                if kind == KEEP:
                    said.append(("old", old_at))
                old_at += 1
    return old_at, tuple(said)


def old_size(edit):
    return meaning(edit[0])[0]


def new_size(edit):
    return len(meaning(edit[0])[1])


def on_tokens(edit, old, name):
    """The new text's tokens where old are the old text's."""
    return [old[at] if kind == "old" else (name, at) for kind, at in meaning(edit[0])[1]]


def on_text(edit, text):
    return [text[at] if kind == "old" else edit[1][at] for kind, at in meaning(edit[0])[1]]


def between(old, new, octet_of):
    """(items, octets) of the edit that makes the tokens new of the tokens old, in the one form."""
    places = {token: at for at, token in enumerate(old)}
    numbers = []
    octets = []

    def add(kind, count):
        if count and numbers and numbers[-2] == kind:
            numbers[-1] += count
        elif count:
            numbers.extend((kind, count))

    at = 0
    for token in new:
        if token in places:
            add(DROP, places[token] - at)
            add(KEEP, 1)
            at = places[token] + 1
        else:
            add(PUT, 1)
            octets.append(octet_of(token))
    add(DROP, len(old) - at)
    return numbers, octets


def told(edit):
    """What items and bytes answer where the slot has this edit, which is in the one form."""
    numbers, octets = edit
    return [[len(numbers) // 2, *numbers], [0, len(octets), *octets]]


def old_tokens(size):
    return [("old", p) for p in range(size)]


def in_one_form(edit):
    old = old_tokens(old_size(edit))
    return between(old, on_tokens(edit, old, "d"), lambda token: edit[1][token[1]])


def then_of(d, e):
    old = old_tokens(old_size(d))
    octets = {"d": d[1], "e": e[1]}
    return between(old, on_tokens(e, on_tokens(d, old, "d"), "e"), lambda token: octets[token[0]][token[1]])


def back_of(d, text):
    old = old_tokens(old_size(d))
    return between(on_tokens(d, old, "d"), old, lambda token: text[token[1]])


def keyed(edit, name, rank):
    """Each token of the new text with what it is sorted by in the text on which both edits are done."""
    last = -1
    keyed_tokens = {}
    for kind, at in meaning(edit[0])[1]:
        if kind == "old":
            last = at
            keyed_tokens["old", at] = (at, 0, 0)
        else:
            keyed_tokens[name, at] = (last, rank, at)
    return keyed_tokens


def both_done(d, e, d_first):
    """The tokens of the text on which d and e are done."""
    ranks = (1, 2) if d_first else (2, 1)
    of_d = keyed(d, "d", ranks[0])
    of_e = keyed(e, "e", ranks[1])
    keys = {**of_d, **of_e}
    stay = [token for token in keys if token[0] != "old" or (token in of_d and token in of_e)]
    return sorted(stay, key=keys.get)


def over_of(d, e, d_first):
    ground = on_tokens(e, old_tokens(old_size(e)), "e")
    return between(ground, both_done(d, e, d_first), lambda token: d[1][token[1]])


def place_of(edit, g, right):
    kept = {p: at for at, (kind, p) in enumerate(meaning(edit[0])[1]) if kind == "old"}
    if right:
        return min([at for p, at in kept.items() if p >= g], default=new_size(edit))
    return max([at + 1 for p, at in kept.items() if p < g], default=0)


def small_edits(size, base):
    """Every edit of an old text of this size with no or one new byte before each old byte and at the end."""
    for fates in itertools.product((KEEP, DROP), repeat=size):
        for puts in itertools.product((0, 1), repeat=size + 1):
            numbers = [number for put, fate in zip(puts, fates) for number in (PUT, put, fate, 1)]
            yield numbers + [PUT, puts[-1]], [base + n for n in range(sum(puts))]


def larger_edits(seed, count, size, most_put=3):
    """Edits of an old text of this size, the same ones whenever it is called."""
    source = random.Random(seed)
    for n in range(count):
        numbers = []
        left = size
        while left > 0:
            kind, step = source.choice((KEEP, DROP)), source.randint(1, min(left, 4))
            numbers += [PUT, source.randint(0, most_put), kind, step]
            left -= step
        numbers += [PUT, source.randint(0, most_put)]
        put = sum(step for kind, step in pairs_of(numbers) if kind == PUT)
        yield numbers, [source.randint(0, 255) for step in range(put)]
