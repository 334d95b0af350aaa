"""Points 3, 6, 11 and 12: queries, how long they may be, their normal texts, which ones are equal."""

import unittest

from fieldquery.errors import CheckFault, FieldError, SyntaxFault, TooLong
from fieldquery.forms import normal_form
from fieldquery.printing import form_text
from fieldquery.queries import Query
from fieldquery.schemas import Schema
from samples import EXAMPLE, Numbers, any_query, dicts_in, example_schema, sides_schema, wide_schema


def entry(name, below=None, number=None):
    return ((name, number), below)


def filled(text, length):
    """The text with spaces behind it up to a length."""
    return text + " " * (length - len(text))


class TestAttributes(unittest.TestCase):
    def test_attributes(self):
        schema = example_schema()
        query = Query(schema, "{ me: user(7) { age } }")
        self.assertIs(query.schema, schema)
        self.assertEqual(query.form, {"Query": {"me": entry("user", {"User": {"age": entry("age")}}, 7)}})
        self.assertEqual(query.text, "{ me: user(7) { age } }")
        self.assertLessEqual({"schema", "form", "text"}, set(vars(query)))

    def test_most_signs(self):
        self.assertEqual(Query.MOST_SIGNS, 400)
        self.assertEqual(Query(example_schema(), "{}").MOST_SIGNS, 400)
        self.assertEqual(vars(Query)["MOST_SIGNS"], 400)

    def test_examples(self):
        schema = example_schema()
        text = "{ me: user(7) { age } feed { ... Post { likes } ... User { age } } }"
        normal = "{ feed { ... User { age } ... Post { likes } } me: user(7) { age } }"
        self.assertEqual(Query(schema, text).text, normal)
        text = "{feed{...User{age}...User{posts{likes author{}}}}}"
        self.assertEqual(Query(schema, text).text, "{ feed { ... User { age posts { author { } likes } } } }")

    def test_form_is_the_normal_form(self):
        schema, text = sides_schema(), "{ pair { near { any { } } ... B { own } } any { ... C { x: same(3) } } }"
        self.assertEqual(Query(schema, text).form, normal_form(schema, text))

    def test_two_queries_share_no_dict(self):
        schema, text = sides_schema(), "{ pair { near { any { } } ... B { own } } }"
        first, second = Query(schema, text), Query(schema, text)
        told = [id(found) for found in dicts_in(first.form) + dicts_in(second.form)]
        self.assertEqual(len(told), len(set(told)))

    def test_the_schema_stays(self):
        schema = example_schema()
        for text in ("{ feed { } }", "{ nope }", "{"):
            try:
                Query(schema, text)
            except FieldError:
                pass
        self.assertEqual(schema.types, EXAMPLE)


class TestLength(unittest.TestCase):
    def test_longest(self):
        for length in (2, 399, 400):
            with self.subTest(length):
                self.assertEqual(Query(example_schema(), filled("{}", length)).text, "{ }")
        text = "{" + "user(1){age}" * 33 + " }"
        self.assertEqual(len(text), 399)
        self.assertEqual(Query(example_schema(), "\n" + text).text, "{ user(1) { age } }")

    def test_too_long(self):
        for length in (401, 402, 1000, 10000):
            with self.subTest(length):
                with self.assertRaises(TooLong) as caught:
                    Query(example_schema(), filled("{}", length))
                self.assertIsInstance(caught.exception, FieldError)

    def test_too_long_ahead_of_all_other_errors(self):
        faults = ("", "{", "?", "{ user(07) }", "{ nope }", "{ ... X { } }", "{ k: user(1) { } k: user(2) { } }", "a" * 401)
        for text in faults:
            with self.subTest(text):
                self.assertRaises(TooLong, Query, example_schema(), filled(text, 401))

    def test_other_faults_at_the_longest(self):
        for text, error in (
            ("", SyntaxFault), ("{", SyntaxFault), ("{}?", SyntaxFault), ("{ nope }", CheckFault),
            ("{ k: user(1) { } k: user(2) { } }", CheckFault),
        ):
            with self.subTest(text):
                self.assertRaises(error, Query, example_schema(), filled(text, 400))

    def test_ends_too_early_at_the_longest(self):
        with self.assertRaises(SyntaxFault) as caught:
            Query(example_schema(), filled("{", 400))
        self.assertEqual(caught.exception.offset, 400)


class TestFaults(unittest.TestCase):
    def test_offset(self):
        with self.assertRaises(SyntaxFault) as caught:
            Query(example_schema(), "{ user(7 { age } }")
        self.assertEqual(caught.exception.offset, 9)

    def test_reason_and_name(self):
        for text, reason, name in (
            ("{ feed { age } }", "unknown field", "Post.age"),
            ("{ ... User { } }", "fragment never applies", "User"),
            ("{ k: user(1) { } k: user(2) { } }", "conflicting fields", "Query.k"),
        ):
            with self.subTest(text):
                with self.assertRaises(CheckFault) as caught:
                    Query(example_schema(), text)
                self.assertEqual((caught.exception.reason, caught.exception.name), (reason, name))

    def test_syntax_ahead_of_checks(self):
        self.assertRaises(SyntaxFault, Query, example_schema(), "{ nope ")


class TestEquality(unittest.TestCase):
    def assert_equal(self, *texts):
        queries = [Query(example_schema(), text) for text in texts]
        for query in queries:
            with self.subTest(query.text):
                self.assertTrue(query == queries[0])
                self.assertFalse(query != queries[0])
                self.assertEqual(query.text, queries[0].text)

    def assert_all_unequal(self, *queries):
        for at, first in enumerate(queries):
            for second in queries[:at]:
                with self.subTest((first.text, second.text)):
                    self.assertFalse(first == second)
                    self.assertTrue(second != first)

    def test_equal(self):
        self.assert_equal("{ }", "{}", "{ ... Query { } }", "\n{\n}\n")
        self.assert_equal(
            "{ user(7) { age posts { likes } } feed { ... User { age } } }",
            "{feed{...Post{}...User{age age}}user7:user(7){posts{likes}age}}",
            "{ user(7) { age } user(7) { posts { likes } } feed { } feed { ... User { age age: age } } }",
            "{ ... Query { user(7) { ... User { age } posts { likes likes } } } feed { ... User { age } } }",
        )

    def test_unequal(self):
        texts = (
            "{ }", "{ feed { } }", "{ f: feed { } }", "{ user(1) { } }", "{ user(2) { } }", "{ user2: user(1) { } }",
            "{ user(1) { age } }", "{ feed { ... User { age } } }", "{ feed { ... User { old: age } } }",
            "{ feed { ... User { posts { } } } }", "{ feed { ... Post { likes } } }",
        )
        self.assert_all_unequal(*[Query(example_schema(), text) for text in texts])

    def test_equal_forms_and_texts_of_unlike_schemas(self):
        fields = (("f", False, "one", ("T",)),)
        schemas = (
            (("T", fields),),
            (("T", fields), ("U", ())),
            (("T", (("f", False, "many", ("T",)),)),),
            (("T", fields + (("g", False, "int", ()),)),),
            (("S", (("f", False, "one", ("S",)),)),),
        )
        for text in ("{ }", "{ f { } }"):
            self.assert_all_unequal(*[Query(Schema(types), text) for types in schemas])

    def test_schemas_with_equal_types(self):
        schema = example_schema()
        self.assertTrue(Query(schema, "{ feed { } }") == Query(example_schema(), "{feed{}}"))

    def test_other_values(self):
        query = Query(example_schema(), "{ }")
        for other in (None, 0, "{ }", query.form, example_schema(), ("{ }",)):
            with self.subTest(repr(other)):
                self.assertFalse(query == other)
                self.assertTrue(query != other)


class TestNormalTexts(unittest.TestCase):
    def assert_text(self, schema, text, normal):
        with self.subTest(text):
            self.assertEqual(Query(schema, text).text, normal)
            self.assertEqual(Query(schema, normal).text, normal)
            self.assertEqual(Query(schema, normal).form, Query(schema, text).form)

    def test_order_of_keys(self):
        self.assert_text(example_schema(), "{ z: feed { } user(9) { } user(10) { } feed { } a: feed { } }",
                         "{ a: feed { } feed { } user(10) { } user(9) { } z: feed { } }")

    def test_order_of_types(self):
        self.assert_text(sides_schema(), "{ any { ... C { mine } ... A { any { } } ... B { own } } }",
                         "{ any { ... A { any { } } ... B { own } ... C { mine } } }")

    def test_a_written_key_that_is_the_field_key(self):
        self.assert_text(example_schema(), "{ user7: user(7) { age: age } feed: feed { } }",
                         "{ feed { } user(7) { age } }")

    def test_a_written_key_that_is_another_field_key(self):
        self.assert_text(example_schema(), "{ user8: user(7) { posts: age } }", "{ user8: user(7) { posts: age } }")

    def test_entries_that_all_types_share(self):
        self.assert_text(sides_schema(), "{ pair { ... B { same(1) } ... C { same(1) } } }", "{ pair { same(1) } }")
        self.assert_text(sides_schema(), "{ pair { ... C { mine same(1) x: same(2) } ... B { x: same(2) same(1) } } }",
                         "{ pair { same(1) x: same(2) ... C { mine } } }")

    def test_entries_that_some_types_share(self):
        self.assert_text(sides_schema(), "{ any { ... B { same(1) } ... C { same(1) } } }",
                         "{ any { ... B { same(1) } ... C { same(1) } } }")

    def test_entries_that_differ(self):
        self.assert_text(sides_schema(), "{ pair { ... B { x: same(1) } ... C { x: same(2) } } }",
                         "{ pair { ... B { x: same(1) } ... C { x: same(2) } } }")
        self.assert_text(sides_schema(), "{ pair { ... B { x: same(1) } ... C { y: same(1) } } }",
                         "{ pair { ... B { x: same(1) } ... C { y: same(1) } } }")
        self.assert_text(sides_schema(), "{ pair { near { any { } } ... B { near { pair { } } } } }",
                         "{ pair { ... B { near { any { } pair { } } } ... C { near { any { } } } } }")

    def test_kinds_that_differ(self):
        self.assert_text(sides_schema(), "{ pair { ... B { near { } } ... C { near { } } } }", "{ pair { near { } } }")
        self.assert_text(sides_schema(), "{ pair { ... B { far { } } ... C { far { } } } }", "{ pair { far { } } }")

    def test_targets_that_differ(self):
        self.assert_text(sides_schema(), "{ pair { next { } } }", "{ pair { ... B { next { } } ... C { next { } } } }")

    def test_as_many_brackets_as_there_may_be(self):
        schema = wide_schema()
        text = "{ o { ... B { o { ... A { o { ... C { n } } } } } } }"
        self.assert_text(schema, text, text)
        self.assert_text(schema, "{ ... C { o { ... B { o { ... A { o { n } } } } } } }",
                         "{ o { ... B { o { ... A { o { n } } } } } }")

    def test_texts_of_many_queries(self):
        numbers, forms = Numbers(2), {}
        for schema in (example_schema(), sides_schema(), wide_schema()):
            for _ in range(600):
                try:
                    form = normal_form(schema, any_query(schema, numbers))
                except CheckFault:
                    continue
                text = form_text(schema, form)
                again = normal_form(schema, text)
                self.assertEqual(again, form)
                self.assertEqual(form_text(schema, again), text)
                self.assertEqual(forms.setdefault((schema.names, text), form), form)
        self.assertGreater(len(forms), 500)


if __name__ == "__main__":
    unittest.main()
