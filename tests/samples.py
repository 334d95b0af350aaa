"""Schemas and ways to write forms that several test files use."""

from fieldquery.schemas import Schema

USER = ("User", (("age", False, "int", ()), ("posts", False, "many", ("Post",))))
POST = ("Post", (("likes", False, "int", ()), ("author", False, "one", ("User",))))
QUERY = ("Query", (("user", True, "one", ("User",)), ("feed", False, "many", ("Post", "User"))))
# The schema of the example in the document: the targets of feed stand in another order.
EXAMPLE = (QUERY, USER, POST)

# Fields that the types B and C have alike, and fields that they have otherwise.
SIDES = (
    ("A", (("any", False, "many", ("C", "B", "A")), ("pair", False, "one", ("C", "B")))),
    ("B", (
        ("same", True, "int", ()),
        ("near", False, "one", ("A",)),
        ("next", False, "one", ("A",)),
        ("far", False, "one", ("A", "B")),
        ("own", False, "int", ()),
    )),
    ("C", (
        ("same", True, "int", ()),
        ("near", False, "many", ("A",)),
        ("next", False, "one", ("B",)),
        ("far", False, "many", ("B", "A")),
        ("mine", False, "int", ()),
    )),
)


def example_schema():
    return Schema(EXAMPLE)


def sides_schema():
    return Schema(SIDES)


def one_type(*fields):
    """Types with one type, T, that has these fields."""
    return (("T", fields),)


# All types lead to all types: the widest places, and fields of each kind with and without an argument.
WIDE_FIELDS = (
    ("n", False, "int", ()),
    ("k", True, "int", ()),
    ("o", False, "one", ("B", "A", "C")),
    ("m", True, "many", ("C", "B")),
)
WIDE = (
    ("C", WIDE_FIELDS + (("c", False, "many", ("A",)),)),
    ("A", WIDE_FIELDS + (("a", True, "one", ("C", "A")),)),
    ("B", WIDE_FIELDS[:2] + (("o", False, "many", ("A", "C")), ("m", True, "one", ("B",)))),
)


def wide_schema():
    return Schema(WIDE)


class Numbers:
    """Numbers that look like chance, the same ones in each run."""

    def __init__(self, seed):
        self.state = seed

    def below(self, bound):
        self.state = (self.state * 6364136223846793005 + 1442695040888963407) % 2 ** 64
        return (self.state >> 33) % bound

    def one_of(self, choices):
        return choices[self.below(len(choices))]


def any_query(schema, numbers, most_entries=3):
    """The text of a query whose entries fit the schema; keys may conflict."""
    return any_brackets(schema, numbers, (schema.root,), 1, 1, most_entries)


def any_brackets(schema, numbers, place, depth, selections, most_entries):
    entries = []
    for _ in range(numbers.below(most_entries + 1)):
        if numbers.below(3) == 0 and depth < 7:
            name = numbers.one_of(place)
            entries.append(f"...{name}" + any_brackets(schema, numbers, (name,), depth + 1, selections, most_entries))
        else:
            entries.append(any_field(schema, numbers, place, depth, selections, most_entries))
    return "{" + " ".join(entry for entry in entries if entry) + "}"


def any_field(schema, numbers, place, depth, selections, most_entries):
    choices = [row for row in dict(schema.types)[place[0]] if fits_all(schema, place, row)]
    if selections == 4 or depth == 7:
        choices = [row for row in choices if row[2] == "int"]
    if not choices:
        return ""
    name, has_argument, kind, _ = numbers.one_of(choices)
    text = numbers.one_of(("", "", "", "x:", "y:", f"{name}:")) + name
    if has_argument:
        text += f"({numbers.one_of((0, 1, 42))})"
    if kind != "int":
        targets = {target for type_name in place for target in schema.targets_of(type_name, name)}
        below = schema.place_of(targets)
        text += any_brackets(schema, numbers, below, depth + 1, selections + 1, most_entries)
    return text


def fits_all(schema, place, row):
    """Whether each type of the place has a field like this one, but for the kinds one and many and the targets."""
    found = [schema.field_of(type_name, row[0]) for type_name in place]
    return all(other and other[1] == row[1] and (other[2] == "int") == (row[2] == "int") for other in found)


def dicts_in(value):
    """All lists and dicts within a value, itself included."""
    if isinstance(value, dict):
        return [value] + [found for below in value.values() for found in dicts_in(below)]
    if isinstance(value, (list, tuple)):
        own = [value] if isinstance(value, list) else []
        return own + [found for below in value for found in dicts_in(below)]
    return []
