"""Schemas and ways to write forms that several test files use."""

from fieldquery.schemas import Schema

USER = ("User", (("age", False, "int", ()), ("posts", False, "many", ("Post",))))
POST = ("Post", (("likes", False, "int", ()), ("author", False, "one", ("User",))))
QUERY = ("Query", (("user", True, "one", ("User",)), ("feed", False, "many", ("Post", "User"))))
# The schema of the example in the document: the targets of feed stand in another order.
EXAMPLE = (QUERY, USER, POST)

# Fields that the types B and C have alike, and fields that they have otherwise.
SIDES = (
    ("A", (("any", False, "many", ("C", "B", "A")), ("pair", False, "one", ("C", "B")))),
    ("B", (
        ("same", True, "int", ()),
        ("near", False, "one", ("A",)),
        ("next", False, "one", ("A",)),
        ("far", False, "one", ("A", "B")),
        ("own", False, "int", ()),
    )),
    ("C", (
        ("same", True, "int", ()),
        ("near", False, "many", ("A",)),
        ("next", False, "one", ("B",)),
        ("far", False, "many", ("B", "A")),
        ("mine", False, "int", ()),
    )),
)


def example_schema():
    return Schema(EXAMPLE)


def sides_schema():
    return Schema(SIDES)


def one_type(*fields):
    """Types with one type, T, that has these fields."""
    return (("T", fields),)
