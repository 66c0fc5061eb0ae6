"""Edits of a text as values, kept in eight slots: answers(calls) does one line of calls."""

SLOT_COUNT = 8
LONGEST_TEXT = 1024
MOST_ITEMS = 2049

KEEP = 0
DROP = 1
PUT = 2


class Edit:
    """An old text's length, and of each byte of the new text its origin.

    An origin is the old byte's position, or a number below 0 that tells a new byte.
    Nothing is written down of dropped bytes: so two edits are the same just where
    both values are equal, whatever items they came in. An edit is never changed.
    """

    def __init__(self, old_size, origins):
        self.old_size = old_size
        self.origins = origins


def new_origin(octet):
    # 0 is an old position, so the new byte 0 has to begin at -1.
    return -1 - octet


def octet_of(origin):
    return -1 - origin


def is_new(origin):
    return origin < 0


def total(items, kind):
    """How many bytes the items of one kind speak of."""
    return sum([items[at + 1] for at in range(0, len(items), 2) if items[at] == kind])


def edit_of(items, octets):
    """The edit that items which are not refused say."""
    origins = []
    old_at = 0
    put_at = 0
    for at in range(0, len(items), 2):
        count = items[at + 1]
        if items[at] == PUT:
            origins.extend([new_origin(octet) for octet in octets[put_at:put_at + count]])
            put_at += count
        else:
            if items[at] == KEEP:
                origins.extend(list(range(old_at, old_at + count)))
            old_at += count
    return Edit(old_at, origins)


def add_item(items, kind, count):
    """Add an item to items in the one form."""
    if count == 0:
        return
    if len(items) > 0 and items[-2] == kind:
        items[-1] += count
    else:
        items.extend([kind, count])


def one_form(edit):
    """The edit's items in the one form, two numbers each."""
    items = []
    old_at = 0
    for origin in edit.origins:
        if is_new(origin):
            add_item(items, PUT, 1)
        else:
            # Drops are told only here and at the end, so they come behind the new bytes they stand with.
            add_item(items, DROP, origin - old_at)
            add_item(items, KEEP, 1)
            old_at = origin + 1
    add_item(items, DROP, edit.old_size - old_at)
    return items


def new_bytes(edit):
    return [octet_of(origin) for origin in edit.origins if is_new(origin)]


def new_text(edit, old_text):
    return [octet_of(origin) if is_new(origin) else old_text[origin] for origin in edit.origins]


def kept_places(edit):
    """For each old byte its place in the new text, or None where it is dropped."""
    places = [None] * edit.old_size
    for at, origin in enumerate(edit.origins):
        if not is_new(origin):
            places[origin] = at
    return places


def new_places(edit):
    """The places of new bytes in the new text: first those at the beginning, then those behind each old byte.

    Behind a dropped old byte there are none: new bytes belong behind one that their edit keeps.
    """
    behind = [[] for p in range(edit.old_size + 1)]
    gap = 0
    for at, origin in enumerate(edit.origins):
        if is_new(origin):
            behind[gap].append(at)
        else:
            gap = origin + 1
    return behind


def one_then_other(one, other):
    """The edit that does what one does and then what the other does."""
    return Edit(one.old_size, [origin if is_new(origin) else one.origins[origin] for origin in other.origins])


def taken_back(edit, old_text):
    """The edit of the new text that makes old_text again."""
    places = kept_places(edit)
    origins = [new_origin(octet) if place is None else place for octet, place in zip(old_text, places)]
    return Edit(len(edit.origins), origins)


def led_over(edit, other, edit_first):
    """The edit of the other's new text that makes the text on which both are done.

    That text may be longer than an edit's may be: who calls this looks.
    """
    edit_kept = kept_places(edit)
    other_kept = kept_places(other)
    edit_new = new_places(edit)
    other_new = new_places(other)
    origins = []
    for gap in range(edit.old_size + 1):
        # Gap 0 is the beginning, and any other one is right behind the old byte before it.
        if gap > 0 and edit_kept[gap - 1] is not None and other_kept[gap - 1] is not None:
            origins.append(other_kept[gap - 1])
        put = [edit.origins[at] for at in edit_new[gap]]
        origins.extend(put + other_new[gap] if edit_first else other_new[gap] + put)
    return Edit(len(other.origins), origins)


def left_place(edit, g):
    """The place behind the last kept old byte before g, or the beginning."""
    place = 0
    for at, origin in enumerate(edit.origins):
        if not is_new(origin) and origin < g:
            place = at + 1
    return place


def right_place(edit, g):
    """The place before the first kept old byte from g on, or the end."""
    for at, origin in enumerate(edit.origins):
        if not is_new(origin) and origin >= g:
            return at
    return len(edit.origins)


def are_same(one, other):
    return one.old_size == other.old_size and one.origins == other.origins


class Reader:
    """Goes through a line's numbers from its beginning, and only reads them."""

    def __init__(self, calls):
        self.calls = calls
        self.position = 0

    def at_end(self):
        return self.position >= len(self.calls)

    def number(self):
        self.position += 1
        return self.calls[self.position - 1]

    def row(self):
        size = self.number()
        begin = self.position
        self.position = begin + size
        return self.calls[begin:begin + size]


def edit_in(slots, i):
    """Slot i's edit, or None where i is above 7 or empty."""
    return slots[i] if i < SLOT_COUNT else None


def refusal_of_set(k, items, octets):
    """The number of the first refusal that holds, or 0."""
    if k >= SLOT_COUNT or len(items) % 2 != 0:
        return -1
    if len(items) > 2 * MOST_ITEMS or len(octets) > LONGEST_TEXT:
        return -3
    put = total(items, PUT)
    if any([kind > PUT for kind in items[0::2]]) or put != len(octets):
        return -2
    kept = total(items, KEEP)
    if kept + total(items, DROP) > LONGEST_TEXT or kept + put > LONGEST_TEXT:
        return -3
    return 0


def answer_set(slots, reader):
    k = reader.number()
    items = reader.row()
    octets = reader.row()
    refusal = refusal_of_set(k, items, octets)
    if refusal == 0:
        slots[k] = edit_of(items, octets)
    return [refusal]


def answer_look(slots, reader):
    edit = edit_in(slots, reader.number())
    if edit is None:
        return [-1]
    new_size = len(edit.origins)
    return [0, edit.old_size, new_size, new_size - len(new_bytes(edit))]


def answer_items(slots, reader):
    edit = edit_in(slots, reader.number())
    if edit is None:
        return [-1]
    items = one_form(edit)
    return [len(items) // 2] + items


def answer_bytes(slots, reader):
    edit = edit_in(slots, reader.number())
    if edit is None:
        return [-1]
    octets = new_bytes(edit)
    return [0, len(octets)] + octets


def answer_apply(slots, reader):
    edit = edit_in(slots, reader.number())
    old_text = reader.row()
    if edit is None:
        return [-1]
    if len(old_text) != edit.old_size:
        return [-2]
    text = new_text(edit, old_text)
    return [0, len(text)] + text


def answer_then(slots, reader):
    one = edit_in(slots, reader.number())
    other = edit_in(slots, reader.number())
    k = reader.number()
    if one is None or other is None or k >= SLOT_COUNT:
        return [-1]
    if len(one.origins) != other.old_size:
        return [-2]
    slots[k] = one_then_other(one, other)
    return [0]


def answer_back(slots, reader):
    edit = edit_in(slots, reader.number())
    k = reader.number()
    old_text = reader.row()
    if edit is None or k >= SLOT_COUNT:
        return [-1]
    if len(old_text) != edit.old_size:
        return [-2]
    slots[k] = taken_back(edit, old_text)
    return [0]


def answer_over(slots, reader):
    edit = edit_in(slots, reader.number())
    other = edit_in(slots, reader.number())
    first = reader.number()
    k = reader.number()
    if edit is None or other is None or k >= SLOT_COUNT:
        return [-1]
    if edit.old_size != other.old_size:
        return [-2]
    led = led_over(edit, other, first != 0)
    if len(led.origins) > LONGEST_TEXT:
        return [-3]
    slots[k] = led
    return [0]


def answer_place(slots, reader):
    edit = edit_in(slots, reader.number())
    g = reader.number()
    right = reader.number()
    if edit is None:
        return [-1]
    if g > edit.old_size:
        return [-2]
    return [0, right_place(edit, g) if right != 0 else left_place(edit, g)]


def answer_same(slots, reader):
    one = edit_in(slots, reader.number())
    other = edit_in(slots, reader.number())
    if one is None or other is None:
        return [-1]
    return [1 if are_same(one, other) else 0]


ANSWERS_OF_CALLS = {
    1: answer_set,
    2: answer_look,
    3: answer_items,
    4: answer_bytes,
    5: answer_apply,
    6: answer_then,
    7: answer_back,
    8: answer_over,
    9: answer_place,
    10: answer_same,
}


def answers(calls):
    """For each call of the line: how many numbers are answered, and they."""
    reader = Reader(calls)
    slots = [None] * SLOT_COUNT
    answered = []
    while not reader.at_end():
        answer = ANSWERS_OF_CALLS[reader.number()](slots, reader)
        answered.append(len(answer))
        answered.extend(answer)
    return answered
