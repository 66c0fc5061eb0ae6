"""Edits of a text as values, kept in eight slots: answers(calls) does one line of calls."""

SLOT_COUNT = 8
LONGEST_TEXT = 1024
MOST_ITEMS = 2049

KEEP = 0
DROP = 1
PUT = 2


class Edit:
    """An old text's length, and of each byte of the new text its origin.

    An origin is the old byte's position, or a number below 0 that tells a new byte.
    Nothing is written down of dropped bytes: so two edits are the same just where
    both values are equal, whatever items they came in. An edit is never changed.
    """

    def __init__(self, old_size, origins):
        self.old_size = old_size
        self.origins = origins


def new_origin(octet):
    # 0 is an old position, so the new byte 0 has to begin at -1.
    return -1 - octet


def octet_of(origin):
    return -1 - origin


def is_new(origin):
    return origin < 0


def total(items, kind):
    """How many bytes the items of one kind speak of."""
    return sum([items[at + 1] for at in range(0, len(items), 2) if items[at] == kind])


def edit_of(items, octets):
    """The edit that items which are not refused say."""
    origins = []
    old_at = 0
    put_at = 0
    for at in range(0, len(items), 2):
        count = items[at + 1]
        if items[at] == PUT:
            origins.extend([new_origin(octet) for octet in octets[put_at:put_at + count]])
            put_at += count
        else:
            if items[at] == KEEP:
                origins.extend(list(range(old_at, old_at + count)))
            old_at += count
    return Edit(old_at, origins)


def add_item(items, kind, count):
    """Add an item to items in the one form."""
    if count == 0:
        return
    if len(items) > 0 and items[-2] == kind:
        items[-1] += count
    else:
        items.extend([kind, count])


def one_form(edit):
    """The edit's items in the one form, two numbers each."""
    items = []
    old_at = 0
    for origin in edit.origins:
        if is_new(origin):
            add_item(items, PUT, 1)
        else:
            # Drops are told only here and at the end, so they come behind the new bytes they stand with.
            add_item(items, DROP, origin - old_at)
            add_item(items, KEEP, 1)
            old_at = origin + 1
    add_item(items, DROP, edit.old_size - old_at)
    return items


def new_bytes(edit):
    return [octet_of(origin) for origin in edit.origins if is_new(origin)]


def new_text(edit, old_text):
    return [octet_of(origin) if is_new(origin) else old_text[origin] for origin in edit.origins]


class Reader:
    """Goes through a line's numbers from its beginning, and only reads them."""

    def __init__(self, calls):
        self.calls = calls
        self.position = 0

    def at_end(self):
        return self.position >= len(self.calls)

    def number(self):
        self.position += 1
        return self.calls[self.position - 1]

    def row(self):
        size = self.number()
        begin = self.position
        self.position = begin + size
        return self.calls[begin:begin + size]


def edit_in(slots, i):
    """Slot i's edit, or None where i is above 7 or empty."""
    return slots[i] if i < SLOT_COUNT else None


def refusal_of_set(k, items, octets):
    """The number of the first refusal that holds, or 0."""
    if k >= SLOT_COUNT or len(items) % 2 != 0:
        return -1
    if len(items) > 2 * MOST_ITEMS or len(octets) > LONGEST_TEXT:
        return -3
    put = total(items, PUT)
    if any([kind > PUT for kind in items[0::2]]) or put != len(octets):
        return -2
    kept = total(items, KEEP)
    if kept + total(items, DROP) > LONGEST_TEXT or kept + put > LONGEST_TEXT:
        return -3
    return 0


def answer_set(slots, reader):
    k = reader.number()
    items = reader.row()
    octets = reader.row()
    refusal = refusal_of_set(k, items, octets)
    if refusal == 0:
        slots[k] = edit_of(items, octets)
    return [refusal]


def answer_look(slots, reader):
    edit = edit_in(slots, reader.number())
    if edit is None:
        return [-1]
    new_size = len(edit.origins)
    return [0, edit.old_size, new_size, new_size - len(new_bytes(edit))]


def answer_items(slots, reader):
    edit = edit_in(slots, reader.number())
    if edit is None:
        return [-1]
    items = one_form(edit)
    return [len(items) // 2] + items


def answer_bytes(slots, reader):
    edit = edit_in(slots, reader.number())
    if edit is None:
        return [-1]
    octets = new_bytes(edit)
    return [0, len(octets)] + octets


def answer_apply(slots, reader):
    edit = edit_in(slots, reader.number())
    old_text = reader.row()
    if edit is None:
        return [-1]
    if len(old_text) != edit.old_size:
        return [-2]
    text = new_text(edit, old_text)
    return [0, len(text)] + text


ANSWERS_OF_CALLS = {1: answer_set, 2: answer_look, 3: answer_items, 4: answer_bytes, 5: answer_apply}


def answers(calls):
    """For each call of the line: how many numbers are answered, and they."""
    reader = Reader(calls)
    slots = [None] * SLOT_COUNT
    answered = []
    while not reader.at_end():
        answer = ANSWERS_OF_CALLS[reader.number()](slots, reader)
        answered.append(len(answer))
        answered.extend(answer)
    return answered
