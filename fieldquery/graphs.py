"""Graphs: what one is, responses on them, and those that tell queries apart."""

from fieldquery.chains import chain_to
from fieldquery.errors import BadGraph
from fieldquery.exact import is_dict_by_texts, is_field_integer, is_index, is_one_of, is_tuple_of
from fieldquery.fieldforms import field_form, union_of
from fieldquery.responses import response_of

MOST_NODES = 30
MOST_VALUES = 20
MOST_ELEMENTS = 10
DIGITS = "0123456789"


def check_graph(schema, graph):
    """Raise BadGraph for what is no graph of the schema, whatever it is."""
    _demand(type(graph) is tuple and len(graph) > 0, "a graph is a tuple of at least one node")
    # Values tell numbers of nodes that may come later, so all types are needed first.
    for node in graph:
        _check_node(schema, node)
    types = [node[0] for node in graph]
    _demand(types[0] == schema.root, "the first node has the root type")
    for type_name, values in graph:
        for key, value in values.items():
            _check_value(schema, types, _definition_by_key(schema, type_name, key), value)


def evaluate(graph, query, *, most=300):
    """The response of a graph to a query, which has at most so many objects."""
    check_graph(query.schema, graph)
    _check_limits(graph)
    return response_of(query.schema, graph, query.form, most)


def difference(first, second):
    """A graph on which two queries have different responses, or None if there is none."""
    spot = _first_unlike(first.form, second.form)
    if spot is None:
        return None
    path, type_name, sample = spot
    return chain_to(first.schema, path, type_name, sample)


def undetermined(queries, query):
    """Two graphs with equal responses to the queries, and different ones to the query, or None."""
    schema = query.schema
    union = union_of(schema, [field_form(told) for told in queries])
    spot = _first_beyond(field_form(query), union)
    if spot is None:
        return None
    path, type_name, field = spot
    return (chain_to(schema, path, type_name, None), chain_to(schema, path, type_name, field))


def _demand(holds, message):
    if not holds:
        raise BadGraph(message)


def _check_node(schema, node):
    _demand(is_tuple_of(node, 2), "nodes are pairs (type, values)")
    type_name, values = node
    _demand(is_one_of(type_name, schema.names), "a node has a type of the schema")
    _demand(is_dict_by_texts(values), "values are a dict from field keys")


def _definition_by_key(schema, type_name, key):
    """The definition of the field of the type that has this field key."""
    name = key.rstrip(DIGITS)
    definition = schema.field_of(type_name, name)
    _demand(definition is not None, "a node has a field that its type does not have")
    digits = key[len(name):]
    has_argument = definition[1]
    _demand(_is_number(digits) if has_argument else digits == "", "what a node has is no field key")
    return definition


def _is_number(digits):
    """Whether digits are those of a number from 0 to 99, as a field key has them."""
    return digits == "0" or (1 <= len(digits) <= 2 and digits[0] != "0")


def _check_value(schema, types, definition, value):
    _, _, kind, targets = definition
    if kind == "many":
        _demand(type(value) is tuple, "the value of a field of the kind many is a tuple")
        for number in value:
            _check_number(types, targets, number)
    elif value is not None:
        if kind == "one":
            _check_number(types, targets, value)
        else:
            _demand(is_field_integer(value), "a value is no integer from -999 to 999")


def _check_number(types, targets, number):
    _demand(is_index(number, types), "a value is no number of a node")
    _demand(types[number] in targets, "a value is the number of a node that is no target")


def _check_limits(graph):
    _demand(len(graph) <= MOST_NODES, "the graph has too many nodes")
    for _, values in graph:
        _demand(len(values) <= MOST_VALUES, "a node has too many fields")
        lists = [value for value in values.values() if isinstance(value, tuple)]
        _demand(all([len(value) <= MOST_ELEMENTS for value in lists]), "a tuple has too many elements")


def _first_unlike(first, second):
    """Where two normal forms differ first: the path, the type, and the field to sample or None; None if nowhere."""
    for type_name in first:
        row, other = first[type_name], second[type_name]
        for key in sorted({own for told in (row, other) for own in told}):
            spot = _unlike_at(type_name, row.get(key), other.get(key))
            if spot is not None:
                return spot
    return None


def _unlike_at(type_name, entry, other):
    """The same for the entries with the same key of two forms, of which one may be None."""
    if entry is None or other is None:
        return ((), type_name, None)
    field, below = entry
    if field != other[0]:
        return ((), type_name, field)
    return None if below is None else _led_on(type_name, field, _first_unlike(below, other[1]))


def _first_beyond(form, union):
    """The first field of a field form that the union does not have: its path, its type, the field; None if none."""
    for type_name, row in form.items():
        for key in sorted(row):
            spot = _beyond_at(type_name, row[key], union[type_name].get(key))
            if spot is not None:
                return spot
    return None


def _beyond_at(type_name, entry, other):
    field, below = entry
    if other is None:
        return ((), type_name, field)
    return None if below is None else _led_on(type_name, field, _first_beyond(below, other[1]))


def _led_on(type_name, field, spot):
    """A spot below a field as one from where this field is; None if there is none."""
    if spot is None:
        return None
    path, last_type, last_field = spot
    return (((type_name, field), *path), last_type, last_field)
