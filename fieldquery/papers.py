"""Papers that show answers, judges of papers, and makers of papers."""

from fieldquery.comparing import Comparer
from fieldquery.errors import BadGraph, NoMatch
from fieldquery.exact import is_exactly, is_index, is_tuple_of
from fieldquery.fieldforms import field_form
from fieldquery.graphs import check_graph, difference, undetermined
from fieldquery.known import KnownObject, are_alike, graph_of, known_from, told_by, unlike_path
from fieldquery.responses import is_response
from fieldquery.schemas import field_key


def judge_determined(queries, query, paper):
    """Whether a paper, which may be anything, shows whether queries determine another query."""
    if _is_paper(paper, "determined", 2):
        return _are_rows(queries, query, paper[1])
    if _is_paper(paper, "undetermined", 3):
        return _show_undetermined(queries, query, paper[1], paper[2])
    return False


def judge_same(first, second, paper):
    """Whether a paper, which may be anything, shows whether two queries have the same response on every graph."""
    if _is_paper(paper, "same", 1):
        return first.text == second.text
    if _is_paper(paper, "differ", 2):
        return _shows_difference(first, second, paper[1])
    return False


def judge_told(queries, responses, paper):
    """Whether a paper, which may be anything, shows whether some graph gives responses to queries."""
    if _is_paper(paper, "graph", 2):
        return _gives(queries, responses, paper[1])
    if _is_paper(paper, "contradict", 4):
        return _show_contradiction(queries, responses, paper)
    return False


def explain_determined(queries, query):
    """A paper on whether queries determine another query."""
    graphs = undetermined(queries, query)
    if graphs is not None:
        return ("undetermined", *graphs)
    forms = [field_form(told) for told in queries]
    return ("determined", tuple([(path, _first_with(forms, path)) for path in _ending_paths(field_form(query))]))


def explain_same(first, second):
    """A paper on whether two queries have the same response on every graph."""
    graph = difference(first, second)
    return ("same",) if graph is None else ("differ", graph)


def explain_told(queries, responses):
    """A paper on whether some graph gives responses, which match their queries; there is at least one."""
    roots = [told_by(queries[at], responses[at], at) for at in range(len(queries))]
    for i in range(len(roots)):
        for j in range(i):
            path = unlike_path(roots[j], roots[i])
            if path is not None:
                return ("contradict", j, i, path)
    return ("graph", graph_of(known_from(queries[0].schema, roots)))


def _is_paper(paper, word, length):
    return is_tuple_of(paper, length) and is_exactly(paper[0], word)


def _is_graph(schema, graph):
    try:
        check_graph(schema, graph)
    except BadGraph:
        return False
    return True


def _ending_paths(form):
    """The paths of a field form that end, in order."""
    paths = []
    for type_name, row in form.items():
        for key in sorted(row):
            field, below = row[key]
            further = [] if below is None else _ending_paths(below)
            # Where nothing is below an entry, its own path ends.
            paths.extend([((type_name, field), *path) for path in further or [()]])
    return paths


def _has_path(form, path):
    """Whether a field form has a path of a field form for the same place."""
    for type_name, field in path:
        entry = form[type_name].get(field_key(field))
        if entry is None:
            return False
        form = entry[1]
    return True


def _first_with(forms, path):
    """The index of the first one of the forms that has the path, which one of them has."""
    return [at for at in range(len(forms)) if _has_path(forms[at], path)][0]


def _are_rows(queries, query, rows):
    """Whether these are the rows of a paper "determined"."""
    paths = _ending_paths(field_form(query))
    if not is_tuple_of(rows, len(paths)):
        return False
    forms = [field_form(told) for told in queries]
    return all([_is_row(forms, paths[at], rows[at]) for at in range(len(paths))])


def _is_row(forms, path, row):
    if not is_tuple_of(row, 2):
        return False
    told_path, k = row
    return is_exactly(told_path, path) and is_index(k, forms) and _has_path(forms[k], path)


def _show_undetermined(queries, query, first, second):
    """Whether two values are graphs with equal responses to the queries and different ones to the query."""
    if not (_is_graph(query.schema, first) and _is_graph(query.schema, second)):
        return False
    comparer = Comparer(query.schema)
    equal = [comparer.number_of(first, told) == comparer.number_of(second, told) for told in [*queries, query]]
    return all(equal[:-1]) and not equal[-1]


def _shows_difference(first, second, graph):
    if not _is_graph(first.schema, graph):
        return False
    comparer = Comparer(first.schema)
    return comparer.number_of(graph, first) != comparer.number_of(graph, second)


def _gives(queries, responses, graph):
    """Whether a value is a graph that gives the responses."""
    schema = queries[0].schema
    if not _is_graph(schema, graph):
        return False
    return all([is_response(schema, graph, queries[at].form, responses[at]) for at in range(len(queries))])


def _show_contradiction(queries, responses, paper):
    _, i, j, path = paper
    if not (is_index(i, responses) and is_index(j, responses) and type(path) is tuple):
        return False
    try:
        first, second = [_values_at(told_by(queries[at], responses[at], at), path) for at in (i, j)]
    except NoMatch:
        return False
    return len(first) > 0 and len(second) > 0 and not are_alike(first[0], second[0])


def _values_at(root, path):
    """The value at a path in a list of its own, which is empty if no value is told there."""
    value = root
    for step in path:
        if isinstance(value, KnownObject) and type(step) is str and step in value.facts:
            value = value.facts[step]
        elif isinstance(value, list) and is_index(step, value):
            value = value[step]
        else:
            return []
    return [value]
