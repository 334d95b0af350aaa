"""Schemas, queries, graphs and strange things that several test files use."""

from fieldquery.errors import CheckFault
from fieldquery.queries import Query
from fieldquery.schemas import Schema

USER = ("User", (("age", False, "int", ()), ("posts", False, "many", ("Post",))))
POST = ("Post", (("likes", False, "int", ()), ("author", False, "one", ("User",))))
QUERY = ("Query", (("user", True, "one", ("User",)), ("feed", False, "many", ("Post", "User"))))
# The schema of the example in the document: the targets of feed stand in another order.
EXAMPLE = (QUERY, USER, POST)

# Fields that the types B and C have alike, and fields that they have otherwise.
SIDES = (
    ("A", (("any", False, "many", ("C", "B", "A")), ("pair", False, "one", ("C", "B")))),
    ("B", (
        ("same", True, "int", ()),
        ("near", False, "one", ("A",)),
        ("next", False, "one", ("A",)),
        ("far", False, "one", ("A", "B")),
        ("own", False, "int", ()),
    )),
    ("C", (
        ("same", True, "int", ()),
        ("near", False, "many", ("A",)),
        ("next", False, "one", ("B",)),
        ("far", False, "many", ("B", "A")),
        ("mine", False, "int", ()),
    )),
)


def example_schema():
    return Schema(EXAMPLE)


def root(**values):
    """An object of the example schema, as a response has it."""
    return {"Type": "Query", **values}


def user(**values):
    return {"Type": "User", **values}


def post(**values):
    return {"Type": "Post", **values}


def sides_schema():
    return Schema(SIDES)


def one_type(*fields):
    """Types with one type, T, that has these fields."""
    return (("T", fields),)


# All types lead to all types: the widest places, and fields of each kind with and without an argument.
WIDE_FIELDS = (
    ("n", False, "int", ()),
    ("k", True, "int", ()),
    ("o", False, "one", ("B", "A", "C")),
    ("m", True, "many", ("C", "B")),
)
WIDE = (
    ("C", WIDE_FIELDS + (("c", False, "many", ("A",)),)),
    ("A", WIDE_FIELDS + (("a", True, "one", ("C", "A")),)),
    ("B", WIDE_FIELDS[:2] + (("o", False, "many", ("A", "C")), ("m", True, "one", ("B",)))),
)


def wide_schema():
    return Schema(WIDE)


class Numbers:
    """Numbers that look like chance, the same ones in each run."""

    def __init__(self, seed):
        self.state = seed

    def below(self, bound):
        self.state = (self.state * 6364136223846793005 + 1442695040888963407) % 2 ** 64
        return (self.state >> 33) % bound

    def one_of(self, choices):
        return choices[self.below(len(choices))]


def any_query(schema, numbers, most_entries=3):
    """The text of a query whose entries fit the schema; keys may conflict."""
    return any_brackets(schema, numbers, (schema.root,), 1, 1, most_entries)


def any_brackets(schema, numbers, place, depth, selections, most_entries):
    entries = []
    for _ in range(numbers.below(most_entries + 1)):
        if numbers.below(3) == 0 and depth < 7:
            name = numbers.one_of(place)
            entries.append(f"...{name}" + any_brackets(schema, numbers, (name,), depth + 1, selections, most_entries))
        else:
            entries.append(any_field(schema, numbers, place, depth, selections, most_entries))
    return "{" + " ".join(entry for entry in entries if entry) + "}"


def any_field(schema, numbers, place, depth, selections, most_entries):
    choices = [row for row in dict(schema.types)[place[0]] if fits_all(schema, place, row)]
    if selections == 4 or depth == 7:
        choices = [row for row in choices if row[2] == "int"]
    if not choices:
        return ""
    name, has_argument, kind, _ = numbers.one_of(choices)
    text = numbers.one_of(("", "", "", "x:", "y:", f"{name}:")) + name
    if has_argument:
        text += f"({numbers.one_of((0, 1, 42))})"
    if kind != "int":
        targets = {target for type_name in place for target in schema.targets_of(type_name, name)}
        below = schema.place_of(targets)
        text += any_brackets(schema, numbers, below, depth + 1, selections + 1, most_entries)
    return text


def fits_all(schema, place, row):
    """Whether each type of the place has a field like this one, but for the kinds one and many and the targets."""
    found = [schema.field_of(type_name, row[0]) for type_name in place]
    return all(other and other[1] == row[1] and (other[2] == "int") == (row[2] == "int") for other in found)


def dicts_in(value):
    """All lists and dicts within a value, itself included."""
    if isinstance(value, dict):
        return [value] + [found for below in value.values() for found in dicts_in(below)]
    if isinstance(value, (list, tuple)):
        own = [value] if isinstance(value, list) else []
        return own + [found for below in value for found in dicts_in(below)]
    return []


def some_queries(schema, numbers, many, most_entries=3):
    """Queries without conflicts, not too long."""
    queries = []
    while len(queries) < many:
        text = any_query(schema, numbers, most_entries)
        try:
            queries += [Query(schema, text)] if len(text) <= 400 else []
        except CheckFault:
            pass
    return queries


def keys_of(schema, type_name):
    """Some field keys of the type, with their definitions."""
    rows = dict(schema.types)[type_name]
    return [(row[0] + number, row) for row in rows for number in (("0", "1", "42") if row[1] else ("",))]


def any_graph(schema, numbers, size, most_elements=3):
    """A graph with so many nodes, in which most fields have values."""
    types = [schema.root] + [numbers.one_of(schema.names) for _ in range(size - 1)]
    return tuple((name, any_values(schema, numbers, types, name, most_elements)) for name in types)


def any_values(schema, numbers, types, type_name, most_elements):
    values = {}
    for key, (_, _, kind, targets) in keys_of(schema, type_name):
        reached = [number for number, name in enumerate(types) if name in targets]
        if numbers.below(5) == 0:
            continue
        if kind == "many":
            length = numbers.below(most_elements + 1) if reached else 0
            values[key] = tuple(numbers.one_of(reached) for _ in range(length))
        elif numbers.below(5) == 0 or (kind == "one" and not reached):
            values[key] = None
        else:
            values[key] = numbers.below(3) - 1 if kind == "int" else numbers.one_of(reached)
    return values


def plain_response(graph, query, number=0, form=None):
    """The response of a graph of any size to a query, made without a look at any limit."""
    type_name, values = graph[number]
    form = query.form if form is None else form
    response = {"Type": type_name}
    for key, ((name, argument), below) in form[type_name].items():
        value = values.get(name if argument is None else f"{name}{argument}")
        if query.schema.field_of(type_name, name)[2] == "many":
            response[key] = [plain_response(graph, query, told, below) for told in value or ()]
        elif below is None or value is None:
            response[key] = value
        else:
            response[key] = plain_response(graph, query, value, below)
    return response


def objects_of(response):
    """The number of objects of a response, every occurrence counted."""
    if isinstance(response, dict):
        return 1 + sum(objects_of(value) for value in response.values())
    return sum(objects_of(value) for value in response) if isinstance(response, list) else 0


def chains_of(schema, form):
    """All rows of entries that lead down in a normal form, by type and key, an entry ahead of what is below it.

    A dict from tuples of triples (index of the type, type, key) to tuples of fields.
    """
    chains = {}
    for name, row in form.items():
        for key, (field, below) in row.items():
            step = (schema.names.index(name), name, key)
            chains[(step,)] = (field,)
            for chain, fields in ({} if below is None else chains_of(schema, below)).items():
                chains[(step, *chain)] = (field, *fields)
    return {chain: chains[chain] for chain in sorted(chains)}


class Refusal(Exception):
    """What a hostile object raises, whatever is done with it."""


def refuse(*_):
    raise Refusal()


REFUSED = {
    name: refuse for name in (
        "__eq__ __ne__ __lt__ __le__ __gt__ __ge__ __len__ __iter__ __bool__ __getitem__ __contains__ __repr__ __str__"
        " __index__ __int__ __add__ __radd__ __sub__ __neg__ __getattr__ get items keys values rstrip startswith"
    ).split()
}
# Objects of classes under those of Python, whose methods raise an error each.
Hostile = type("Hostile", (), {**REFUSED, "__hash__": lambda self: 0})
HostileTuple = type("HostileTuple", (tuple,), {**REFUSED, "__hash__": lambda self: 0})
HostileList = type("HostileList", (list,), REFUSED)
HostileDict = type("HostileDict", (dict,), REFUSED)
HostileInteger = type("HostileInteger", (int,), {**REFUSED, "__hash__": lambda self: 0})


class HostileText(str):
    """A text with the same hash as an equal one, so that a look into a dict compares it."""

    __hash__ = str.__hash__
    __eq__ = refuse
    __ne__ = refuse
    __len__ = refuse
    rstrip = refuse


def deep_tuple(depth):
    value = ()
    for _ in range(depth):
        value = (value,)
    return value


def strange_things():
    """Values of all kinds that are neither graphs nor responses nor papers."""
    own_list, own_dict = [], {"Type": "Query"}
    own_list.append(own_list)
    own_dict["feed"] = [own_dict]
    own_dict["user7"] = own_dict
    return [
        None, True, False, 0, 1, -1, 10 ** 5000, -(10 ** 5000), 1.5, float("nan"), 1j, "", "same", "Type", "graph", b"same",
        (), ((),), (((),),), [], [[]], {}, {"Type": None}, {1: 2}, {(): ()}, set(), frozenset(), object(), object, len,
        range(3), iter(()), NotImplemented, ..., (None,), (None, None), (("Query",),), (("Query", {}, {}),),
        deep_tuple(100000), own_list, own_dict, Hostile(), HostileTuple(), HostileTuple(("same",)), HostileList(),
        HostileDict(), HostileInteger(0), HostileText("same"), HostileText("Query"), {Hostile(): 1},
        {HostileText("Type"): "Query"}, ("Query", {Hostile(): 0}),
    ]


def facts_of(query, response):
    """What a response that matches tells: pairs (path, mark), in which paths have field keys and indices."""
    return [((), ("Type", query.schema.root))] + facts_below(query.schema, query.form, response, ())


def facts_below(schema, form, response, path):
    facts = []
    for key, ((name, number), below) in form[response["Type"]].items():
        step = (*path, name if number is None else f"{name}{number}")
        facts += facts_at(schema, below, response[key], step)
    return facts


def facts_at(schema, below, value, path):
    if isinstance(value, dict):
        return [(path, ("Type", value["Type"]))] + facts_below(schema, below, value, path)
    if isinstance(value, list):
        elements = [fact for at, told in enumerate(value) for fact in facts_at(schema, below, told, (*path, at))]
        return [(path, ("length", len(value)))] + elements
    return [(path, value)]


def are_unlike(facts):
    """Whether facts tell unlike values at the same path."""
    told = {}
    return any(told.setdefault(path, mark) != mark for path, mark in facts)


def known_paths(facts):
    """The paths of all known objects."""
    return {path for path, mark in facts if isinstance(mark, tuple) and mark[0] == "Type"}
