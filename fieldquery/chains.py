"""Chains: graphs in which each node leads to the next one."""

from fieldquery.schemas import field_key


def chain_to(schema, path, type_name, sample):
    """The chain for a path of pairs (type, field), and a last node of this type.

    The last node has a sample value for the field `sample`, or no values if that is None.
    """
    links = [_link(schema, path[at], at + 1) for at in range(len(path))]
    return (*links, *_last_nodes(schema, type_name, sample, len(path) + 1))


def _link(schema, pair, number):
    """A node whose only value is that of a field, which leads to the node with this number if it leads anywhere."""
    type_name, field = pair
    kind = schema.field_of(type_name, field[0])[2]
    return (type_name, {field_key(field): _value_to(kind, number)})


def _value_to(kind, number):
    if kind == "int":
        return 0
    return number if kind == "one" else (number,)


def _last_nodes(schema, type_name, sample, number):
    if sample is None:
        return [(type_name, {})]
    # A field of the kind "int" has no target, and so no additional node.
    targets = schema.targets_of(type_name, sample[0])
    return [_link(schema, (type_name, sample), number), *[(target, {}) for target in targets[:1]]]
