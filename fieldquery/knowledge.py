"""What responses tell: whether they match, and responses that are made out of other ones."""

from fieldquery.errors import NoMatch, NotDetermined
from fieldquery.graphs import undetermined
from fieldquery.known import graph_of, known_from, told_by
from fieldquery.responses import response_of

MOST_OBJECTS_TOLD = 300


def matches(query, response):
    """Whether a response, which may be anything, is the one of some graph to the query."""
    try:
        told_by(query, response, 0)
    except NoMatch:
        return False
    return True


def project(queries, responses, query):
    """The response to a query that responses to other queries tell."""
    if undetermined(queries, query) is not None:
        raise NotDetermined("the queries do not determine the query")
    # All responses are matched first: that one does not match comes ahead of any contradiction.
    roots = [told_by(queries[at], responses[at], at) for at in range(len(queries))]
    return response_told(known_from(query.schema, roots), query)


def response_told(known, query):
    """The response to a query of which nothing is missing for what is known."""
    # Any graph that gives what is known has this response, so the graph of what is known does.
    return response_of(query.schema, graph_of(known), query.form, MOST_OBJECTS_TOLD)
