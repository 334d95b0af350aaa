"""What responses tell of objects."""

from fieldquery.errors import Contradiction, NoMatch
from fieldquery.responses import TYPE_KEY, fits
from fieldquery.schemas import field_key


class KnownObject:
    """An object: its type, and by their field keys the values of those of its fields that are known.

    A value is None, an integer, a known object or a list of known objects. Nothing of this changes once it is made, so
    that what was known earlier stays as it was, and several objects may share what they have alike.
    """

    def __init__(self, type_name, facts):
        self.type_name = type_name
        self.facts = facts

    def with_fact(self, key, value):
        """The object with the value of one more field."""
        return KnownObject(self.type_name, {**self.facts, key: value})


def objects_in(value):
    """The objects that a value tells, in order; a list that is not to be changed."""
    if isinstance(value, list):
        return value
    return [value] if isinstance(value, KnownObject) else []


def told_by(query, response, index):
    """The root object as a response tells it; NoMatch with this index if it does not match the query."""
    if not fits(query.schema, query.form, response):
        raise NoMatch(index)
    try:
        return _object_told(query.form, response)
    except Contradiction:
        raise NoMatch(index) from None


def with_told(known, told):
    """The object of which is known what two objects tell; Contradiction if they tell unlike values."""
    if unlike_path(known, told) is not None:
        raise Contradiction("unlike values of a field of the same object")
    return _joined(known, told)


def known_from(schema, roots):
    """The root object of which is known what all these tell; Contradiction if any two tell unlike values."""
    known = KnownObject(schema.root, {})
    for root in roots:
        known = with_told(known, root)
    return known


def are_alike(first, second):
    """Whether two values are alike, what is known of their objects aside."""
    if isinstance(first, KnownObject) and isinstance(second, KnownObject):
        return first.type_name == second.type_name
    if isinstance(first, list) and isinstance(second, list):
        return len(first) == len(second)
    return first == second


def unlike_path(first, second):
    """The path to the first values that are told by both and unlike: field keys and indices; None if there are none."""
    if not are_alike(first, second):
        return ()
    for step, one, other in _steps_of_both(first, second):
        path = unlike_path(one, other)
        if path is not None:
            return (step, *path)
    return None


def object_count(known):
    """The number of objects that are known: this one and all below it."""
    return 1 + sum([object_count(told) for value in known.facts.values() for told in objects_in(value)])


def graph_of(known):
    """The graph of what is known of the root object."""
    return tuple(_nodes_from(known, 0))


def _object_told(form, response):
    type_name = response[TYPE_KEY]
    known = KnownObject(type_name, {})
    for key, (field, below) in form[type_name].items():
        # Several keys may tell of the same field, and of the same objects below it.
        value = _value_told(below, response[key])
        known = with_told(known, KnownObject(type_name, {field_key(field): value}))
    return known


def _value_told(below, value):
    if below is None or value is None:
        return value
    if isinstance(value, list):
        return [_object_told(below, told) for told in value]
    return _object_told(below, value)


def _steps_of_both(first, second):
    """The steps that lead on from two values that are alike: triples (step, value, value)."""
    if isinstance(first, KnownObject):
        keys = [key for key in sorted(second.facts) if key in first.facts]
        return [(key, first.facts[key], second.facts[key]) for key in keys]
    if isinstance(first, list):
        return [(at, first[at], second[at]) for at in range(len(first))]
    return []


def _joined(first, second):
    """The value that two values tell that do not contradict each other."""
    if isinstance(first, KnownObject):
        joined = dict(first.facts)
        for key, value in second.facts.items():
            joined[key] = _joined(joined[key], value) if key in joined else value
        return KnownObject(first.type_name, joined)
    if isinstance(first, list):
        return [_joined(first[at], second[at]) for at in range(len(first))]
    return first


def _nodes_from(known, number):
    """The nodes for an object, which gets this number, and for all below it."""
    values, nodes = {}, []
    for key in sorted(known.facts):
        value, numbers = known.facts[key], []
        for told in objects_in(value):
            numbers.append(number + 1 + len(nodes))
            nodes.extend(_nodes_from(told, numbers[-1]))
        if not _is_no_value(value):
            values[key] = _value_with(value, numbers)
    return [(known.type_name, values), *nodes]


def _is_no_value(value):
    return value is None or (isinstance(value, list) and len(value) == 0)


def _value_with(value, numbers):
    """A value in a graph, in which its objects have these numbers."""
    if isinstance(value, list):
        return tuple(numbers)
    return numbers[0] if isinstance(value, KnownObject) else value
