"""Queries of a schema."""

from fieldquery.errors import TooLong
from fieldquery.forms import normal_form
from fieldquery.printing import form_text


class Query:
    """A query: its schema, its normal form for the root type, and its normal text."""

    MOST_SIGNS = 400

    def __init__(self, schema, text):
        if len(text) > Query.MOST_SIGNS:
            raise TooLong(f"a query has at most {Query.MOST_SIGNS} characters, not {len(text)}")
        self.schema = schema
        self.form = normal_form(schema, text)
        self.text = form_text(schema, self.form)

    def __eq__(self, other):
        return isinstance(other, Query) and self.schema.types == other.schema.types and self.text == other.text
