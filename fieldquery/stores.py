"""Stores of received responses."""

from fieldquery.errors import StoreFull
from fieldquery.fieldforms import field_form
from fieldquery.knowledge import response_told
from fieldquery.known import graph_of, known_from, object_count, told_by, with_told
from fieldquery.missing import missing_of, with_first_missing
from fieldquery.printing import form_text

MOST_WRITES = 60
MOST_OBJECTS = 200


class State:
    """What a store holds: texts of the queries of its writes, what these tell, the state ahead of the last write.

    A state does not change: a store gets another one.
    """

    def __init__(self, texts, known, before):
        self.texts = texts
        self.known = known
        self.before = before


class Trial:
    """A trial of a store, for a "with" statement."""

    def __init__(self, store):
        self.store = store
        self.state = store.state

    def __enter__(self):
        return self.store

    def __exit__(self, kind, value, trace):
        store = self.store
        store.state = self.state


class Store:
    """A store of responses to queries of a schema."""

    def __init__(self, schema):
        self.schema = schema
        self.state = State((), known_from(schema, []), None)

    def __len__(self):
        return len(self.state.texts)

    def __iter__(self):
        return iter(self.state.texts)

    def write(self, query, response):
        """Add a query and a response; the number of objects that are known then."""
        known = with_told(self.state.known, told_by(query, response, 0))
        if len(self) == MOST_WRITES:
            raise StoreFull(f"a store has at most {MOST_WRITES} writes")
        many = object_count(known)
        if many > MOST_OBJECTS:
            raise StoreFull(f"a store knows at most {MOST_OBJECTS} objects")
        self.state = State((*self.state.texts, query.text), known, self.state)
        return many

    def undo(self):
        """Take the last write in force back; False if there is none."""
        before = self.state.before
        if before is None:
            return False
        self.state = before
        return True

    def read(self, query):
        """The response to a query as far as all is known for it, or None."""
        if missing_of(field_form(query), self.state.known) is not None:
            return None
        return response_told(self.state.known, query)

    def missing(self, query):
        """The normal text of what is missing of a query, or None."""
        rest = missing_of(field_form(query), self.state.known)
        return None if rest is None else form_text(self.schema, rest)

    def witnesses(self, query):
        """Two graphs that give all responses and differ on the query, or None if nothing is missing."""
        more = with_first_missing(self.schema, field_form(query), self.state.known)
        return None if more is None else (graph_of(self.state.known), graph_of(more))

    def graph(self):
        """The graph of what is known."""
        return graph_of(self.state.known)

    def known_count(self):
        """The number of known objects."""
        return object_count(self.state.known)

    def tried(self):
        """A trial: behind its "with" statement, all is as it is now."""
        return Trial(self)

    def foresee(self, query, response):
        """What a write would give, or raise; the store stays as it is."""
        with Trial(self):
            return self.write(query, response)
