"""Whether responses on graphs are equal, however large they are."""

from fieldquery.responses import numbers_in
from fieldquery.schemas import field_key


class Comparer:
    """Numbers for objects in responses: equal ones have the same number, and only these.

    A small graph may have a response with a great many objects, as a node is told again wherever it is reached. So
    responses are not built, but each node is numbered once for each place in a normal form where it is reached.
    """

    def __init__(self, schema):
        self.schema = schema
        self.numbers = {}

    def number_of(self, graph, query):
        """The number of the response of a graph to a query."""
        return self.numbers_at(graph, query.form, [0])[0]

    def numbers_at(self, graph, form, nodes):
        """The numbers of the objects for some nodes, by the numbers of these nodes."""
        found = {}
        for type_name, row in form.items():
            own = [node for node in nodes if graph[node][0] == type_name]
            columns = [(key, self.values_at(graph, type_name, row[key], own)) for key in row]
            for node in own:
                told = tuple([(key, values[node]) for key, values in columns])
                found[node] = self.number_for((type_name, told))
        return found

    def values_at(self, graph, type_name, entry, nodes):
        """What an entry of a form tells of some nodes of this type, by the numbers of these nodes."""
        field, below = entry
        key = field_key(field)
        values = {node: graph[node][1].get(key) for node in nodes}
        if below is None:
            return values
        reached = sorted({number for value in values.values() for number in numbers_in(value)})
        numbers = self.numbers_at(graph, below, reached)
        is_list = self.schema.field_of(type_name, field[0])[2] == "many"
        return {node: self.value_told(is_list, values[node], numbers) for node in nodes}

    def value_told(self, is_list, value, numbers):
        """What stands for the value of a field that leads to nodes with these numbers for their objects."""
        if value is None and not is_list:
            return None
        # What is only written alike is kept apart: an integer, an object, a list of one object.
        return (is_list, *[numbers[told] for told in numbers_in(value)])

    def number_for(self, told):
        """The number for what is told of an object."""
        return self.numbers.setdefault(told, len(self.numbers))
