"""Responses of graphs to normal forms."""

from fieldquery.errors import TooLarge
from fieldquery.exact import is_dict_by_texts, is_field_integer, is_one_of
from fieldquery.schemas import field_key

TYPE_KEY = "Type"


def numbers_in(value):
    """The numbers of nodes in the value of a field that leads to nodes; a tuple."""
    if value is None:
        return ()
    return value if isinstance(value, tuple) else (value,)


def response_of(schema, graph, form, most):
    """The response of a graph, which may be of any size; TooLarge if it has more than so many objects."""
    # The objects are counted first, so that nothing is built that is far too large.
    if _objects_for(graph, 0, form) > most:
        raise TooLarge("the response has too many objects")
    return _object_for(schema, graph, 0, form)


def fits(schema, form, response):
    """Whether a response, which may be anything, has types, keys and values as those to the form have them.

    What two keys tell of the same field may still be unlike.
    """
    if not is_dict_by_texts(response):
        return False
    type_name = response.get(TYPE_KEY)
    if not is_one_of(type_name, form):
        return False
    row = form[type_name]
    if len(response) != 1 + len(row):
        return False
    return all([key in response and _value_fits(schema, type_name, row[key], response[key]) for key in row])


def is_response(schema, graph, form, response):
    """Whether a response, which may be anything, is the one of a graph."""
    return fits(schema, form, response) and _is_object(graph, 0, form, response)


def _objects_for(graph, number, form):
    type_name, values = graph[number]
    many = 1
    for field, below in form[type_name].values():
        if below is not None:
            numbers = numbers_in(values.get(field_key(field)))
            many += sum([_objects_for(graph, told, below) for told in numbers])
    return many


def _object_for(schema, graph, number, form):
    type_name, values = graph[number]
    response = {TYPE_KEY: type_name}
    for key, (field, below) in form[type_name].items():
        value = values.get(field_key(field))
        if below is None:
            response[key] = value
        else:
            objects = [_object_for(schema, graph, told, below) for told in numbers_in(value)]
            is_list = schema.field_of(type_name, field[0])[2] == "many"
            response[key] = objects if is_list else _one_or_none(objects)
    return response


def _one_or_none(objects):
    return objects[0] if len(objects) > 0 else None


def _value_fits(schema, type_name, entry, value):
    field, below = entry
    kind = schema.field_of(type_name, field[0])[2]
    if kind == "many":
        return type(value) is list and all([fits(schema, below, told) for told in value])
    if value is None:
        return True
    return fits(schema, below, value) if kind == "one" else is_field_integer(value)


def _is_object(graph, number, form, response):
    """Whether a response that fits is the object for a node."""
    type_name, values = graph[number]
    if response[TYPE_KEY] != type_name:
        return False
    row = form[type_name]
    return all([_is_value(graph, values, row[key], response[key]) for key in row])


def _is_value(graph, values, entry, told):
    """Whether what is told for an entry is the value of its field in the values of a node."""
    field, below = entry
    value = values.get(field_key(field))
    if below is None:
        return told == value
    numbers, objects = numbers_in(value), _objects_told(told)
    if len(numbers) != len(objects):
        return False
    return all([_is_object(graph, numbers[at], below, objects[at]) for at in range(len(numbers))])


def _objects_told(told):
    if told is None:
        return []
    return told if isinstance(told, list) else [told]
