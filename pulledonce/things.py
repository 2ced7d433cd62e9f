"""Things: items, what functions give, and rows.

A thing is a tuple (shape, items): the shape is its text with the sign ITEM for each
item, items is the tuple of these. What stands for an item is up to the caller, since a
program never looks into its things: a text, for a run that is shown, or a number.
"""

# No name has such a sign.
ITEM = "*"


def item_text(source, number):
    return f"{source}{number}"


def item_thing(item):
    return (ITEM, (item,))


def result_thing(name, thing):
    shape, items = thing
    return (f"{name}({shape})", items)


def row_thing(things):
    items = []
    for _, some in things:
        items.extend(some)
    return ("[" + ", ".join([shape for shape, _ in things]) + "]", tuple(items))


def shapes_in_row(shape):
    """The shapes of the things in a row with a shape."""
    shapes = []
    begin = 1
    level = 0
    for at, sign in enumerate(shape):
        if sign == "[":
            level += 1
        if level == 1 and sign in ",]":
            shapes.append(shape[begin:at])
            begin = at + 2
        if sign == "]":
            level -= 1
    return shapes


def things_in_row(row):
    """The list of the things in a row, those that row_thing was given."""
    shape, items = row
    things = []
    first = 0
    for inner in shapes_in_row(shape):
        behind = first + inner.count(ITEM)
        things.append((inner, items[first:behind]))
        first = behind
    return things


def thing_text(thing):
    """The text of a thing whose items are texts."""
    shape, items = thing
    between = shape.split(ITEM)
    return between[0] + "".join([item + more for item, more in zip(items, between[1:])])
