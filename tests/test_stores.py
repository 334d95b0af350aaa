"""Points 2, 3 and 20 to 26: stores."""

import copy
import unittest

from fieldquery.errors import Contradiction, FieldError, NoMatch, StoreFull, TooLarge
from fieldquery.fieldforms import field_form
from fieldquery.forms import normal_form
from fieldquery.graphs import check_graph, evaluate
from fieldquery.printing import form_text
from fieldquery.queries import Query
from fieldquery.schemas import Schema
from fieldquery.stores import Store
from samples import Numbers, any_graph, are_unlike, chains_of, dicts_in, example_schema, facts_of, known_paths
from samples import plain_response, sides_schema, some_queries, strange_things, wide_schema
from samples import post, root, user


class StoresCase(unittest.TestCase):
    def setUp(self):
        self.schema = example_schema()
        self.store = Store(self.schema)

    def query(self, text):
        return Query(self.schema, text)

    def write(self, text, response):
        return self.store.write(self.query(text), response)

    def seen(self, *texts):
        """All that the store tells, with what it tells of queries with these texts."""
        store, queries = self.store, [self.query(text) for text in texts]
        told = [(store.missing(query), store.read(query), store.witnesses(query)) for query in queries]
        return repr((len(store), list(store), store.known_count(), store.graph(), told))

    def assert_raises(self, error, work, *arguments):
        """The call raises the error, and changes nothing."""
        texts = ("{ user(7) { age posts { } } feed { ... User { age } } }", "{ user(7) { age } }", "{ feed { } }")
        before = self.seen(*texts)
        with self.assertRaises(error) as caught:
            work(*arguments)
        self.assertIsInstance(caught.exception, FieldError)
        self.assertEqual(self.seen(*texts), before)
        return caught.exception


class TestEmptyStore(StoresCase):
    def test_nothing_is_known(self):
        self.assertEqual((len(self.store), list(self.store), self.store.known_count()), (0, [], 1))
        self.assertEqual(self.store.graph(), (("Query", {}),))

    def test_queries(self):
        nothing, some = self.query("{ }"), self.query("{ feed { } a: user(7) { age } }")
        self.assertEqual(self.store.read(nothing), root())
        self.assertIsNone(self.store.missing(nothing))
        self.assertIsNone(self.store.witnesses(nothing))
        self.assertIsNone(self.store.read(some))
        self.assertEqual(self.store.missing(some), "{ feed { } user(7) { age } }")
        self.assertEqual(self.store.witnesses(some), ((("Query", {}),), (("Query", {"feed": (1,)}), ("User", {}))))

    def test_undo(self):
        self.assertIs(self.store.undo(), False)
        self.assertIs(self.store.undo(), False)

    def test_stores_are_apart(self):
        other = Store(self.schema)
        self.write("{ user(7) { } }", root(user7=user()))
        self.assertEqual((len(other), other.known_count(), list(other)), (0, 1, []))


class TestWrite(StoresCase):
    def test_numbers(self):
        self.assertEqual(self.write("{ user(7) { age } }", root(user7=user(age=1))), 2)
        self.assertEqual(self.write("{ user(8) { age } }", root(user8=None)), 2)
        self.assertEqual(self.write("{ a: user(7) { posts { likes } } }", root(a=user(posts=[post(likes=1), post(likes=2)]))), 4)
        self.assertEqual(self.write("{ user(7) { age } }", root(user7=user(age=1))), 4)
        self.assertEqual(self.write("{ user(7) { posts { author { } } } }",
                                    root(user7=user(posts=[post(author=user()), post(author=None)]))), 5)
        self.assertEqual(self.write("{ }", root()), 5)
        self.assertEqual((len(self.store), self.store.known_count()), (6, 5))

    def test_every_object_counts_once(self):
        # Two keys tell the same objects; the objects of a list are others than that of a field.
        response = root(a=user(age=1), b=user(age=1), feed=[user(age=1), user(age=1)], user7=user())
        self.assertEqual(self.write("{ a: user(7) { age } b: user(7) { age } user(7) { } feed { ... User { age } } }", response), 4)

    def test_iteration(self):
        texts = ("{ b: user(7) { age age } a: feed { } }", "{}", "{ feed{ ... User{age} ... Post { } } }", "{}")
        for text in texts:
            query = self.query(text)
            self.store.write(query, plain_response((("Query", {}),), query))
        normal = ["{ a: feed { } b: user(7) { age } }", "{ }", "{ feed { ... User { age } } }", "{ }"]
        self.assertEqual(list(self.store), normal)
        self.assertEqual([text for text in self.store], normal)
        self.assertEqual(len(self.store), 4)

    def test_no_match(self):
        self.write("{ user(7) { age } }", root(user7=user(age=1)))
        for text, response in (
            ("{ }", None), ("{ }", root(feed=[])), ("{ feed { } }", root(feed=None)), ("{ feed { } }", root()),
            ("{ user(8) { } }", root(user8=post())), ("{ user(8) { age } }", root(user8=user(age=True))),
            ("{ user(8) { age } }", root(user8=user(age=1000))),
            ("{ a: user(8) { age } b: user(8) { age } }", root(a=user(age=1), b=user(age=2))),
        ):
            with self.subTest((text, response)):
                for work in (self.store.write, self.store.foresee):
                    self.assertEqual(self.assert_raises(NoMatch, work, self.query(text), response).index, 0)
        query = self.query("{ user(7) { age } feed { } }")
        for thing in strange_things():
            self.assert_raises(NoMatch, self.store.write, query, thing)

    def test_contradictions(self):
        self.write("{ user(7) { age posts { likes } } user(8) { } user(9) { age } feed { ... User { age } } }", root(
            user7=user(age=0, posts=[post(likes=1)]), user8=None, user9=user(age=None), feed=[post(), user(age=5)],
        ))
        for text, response in (
            ("{ user(7) { } }", root(user7=None)),
            ("{ user(8) { } }", root(user8=user())),
            ("{ user(7) { age } }", root(user7=user(age=1))),
            ("{ user(7) { age } }", root(user7=user(age=None))),
            ("{ user(9) { age } }", root(user9=user(age=0))),
            ("{ user(7) { posts { } } }", root(user7=user(posts=[]))),
            ("{ user(7) { posts { } } }", root(user7=user(posts=[post()] * 2))),
            ("{ a: user(7) { b: posts { c: likes } } }", root(a=user(b=[post(c=2)]))),
            ("{ feed { } }", root(feed=[post()])),
            ("{ feed { } }", root(feed=[post(), post()])),
            ("{ feed { } }", root(feed=[user(), post()])),
            ("{ feed { ... User { k: age } } }", root(feed=[post(), user(k=6)])),
        ):
            with self.subTest((text, response)):
                self.assert_raises(Contradiction, self.store.write, self.query(text), response)
                self.assert_raises(Contradiction, self.store.foresee, self.query(text), response)
        self.assertEqual(len(self.store), 1)

    def test_what_is_behind_a_field_that_was_taken_back(self):
        self.write("{ user(7) { age } }", root(user7=user(age=1)))
        self.store.undo()
        self.assertEqual(self.write("{ user(7) { age } }", root(user7=None)), 1)
        self.assertEqual(self.store.read(self.query("{ user(7) { age } }")), root(user7=None))

    def test_responses_may_be_changed_later(self):
        response = root(feed=[user(age=1), post()], user7=user(age=2))
        self.write("{ feed { ... User { age } } user(7) { age } }", response)
        before = self.seen("{ feed { ... User { age } } user(7) { age } }")
        response["feed"][0]["age"] = 3
        response["feed"].append(post())
        response["user7"].clear()
        response["more"] = None
        self.assertEqual(self.seen("{ feed { ... User { age } } user(7) { age } }"), before)


class TestFull(StoresCase):
    def test_60_writes(self):
        for number in range(60):
            self.assertEqual(self.write("{ user(%d) { } }" % number, root(**{f"user{number}": user()})), number + 2)
        self.assertEqual((len(self.store), self.store.known_count()), (60, 61))
        for text, response in (("{ }", root()), ("{ user(0) { } }", root(user0=user())), ("{ user(99) { } }", root(user99=None))):
            self.assert_raises(StoreFull, self.store.write, self.query(text), response)
            self.assert_raises(StoreFull, self.store.foresee, self.query(text), response)
        self.assertTrue(self.store.undo())
        self.assertEqual(self.write("{ user(99) { } }", root(user99=None)), 60)
        self.assert_raises(StoreFull, self.store.write, self.query("{ }"), root())

    def test_200_objects(self):
        self.assertEqual(self.write("{ feed { } }", root(feed=[post()] * 199)), 200)
        self.assertEqual(self.write("{ feed { ... Post { likes } } }", root(feed=[post(likes=1)] * 199)), 200)
        self.assertEqual(self.write("{ user(1) { } }", root(user1=None)), 200)
        self.assert_raises(StoreFull, self.store.write, self.query("{ user(2) { } }"), root(user2=user()))
        self.assert_raises(StoreFull, self.store.foresee, self.query("{ user(2) { } }"), root(user2=user()))
        self.assertEqual(len(self.store), 3)

    def test_201_objects_at_once(self):
        for length in (200, 201, 5000):
            self.assert_raises(StoreFull, self.store.write, self.query("{ feed { } }"), root(feed=[post()] * length))
        # What two keys tell of the same objects counts once.
        self.assertEqual(self.write("{ a: feed { } b: feed { } }", root(a=[post()] * 199, b=[post()] * 199)), 200)

    def test_order_of_errors(self):
        self.write("{ feed { } }", root(feed=[post()] * 199))
        self.assert_raises(NoMatch, self.store.write, self.query("{ feed { } }"), root(feed=[None] * 300))
        self.assert_raises(Contradiction, self.store.write, self.query("{ feed { } }"), root(feed=[post()] * 300))
        for _ in range(59):
            self.write("{ }", root())
        self.assert_raises(NoMatch, self.store.write, self.query("{ feed { } }"), root(feed=None))
        self.assert_raises(Contradiction, self.store.write, self.query("{ feed { } }"), root(feed=[]))
        self.assert_raises(StoreFull, self.store.write, self.query("{ user(1) { } }"), root(user1=user()))


class TestUndo(StoresCase):
    def test_up_to_the_empty_store_and_once_more(self):
        texts = ("{ user(7) { age } feed { } }", "{ user(7) { posts { } } }")
        told = [
            ("{ user(7) { age } }", root(user7=user(age=1))), ("{ feed { } }", root(feed=[post()])), ("{ }", root()),
            ("{ user(7) { age } }", root(user7=user(age=1))),
            ("{ user(7) { posts { } } feed { } }", root(user7=user(posts=[post()]), feed=[post()])),
        ]
        seen = [self.seen(*texts)]
        for text, response in told:
            self.write(text, response)
            seen.append(self.seen(*texts))
        for before in reversed(seen[:-1]):
            self.assertIs(self.store.undo(), True)
            self.assertEqual(self.seen(*texts), before)
        self.assertIs(self.store.undo(), False)
        self.assertEqual(self.seen(*texts), seen[0])
        self.assertEqual(self.write(*told[1]), 2)

    def test_a_failed_write_is_not_undone(self):
        self.write("{ user(7) { } }", root(user7=None))
        self.assert_raises(Contradiction, self.store.write, self.query("{ user(7) { } }"), root(user7=user()))
        self.assertTrue(self.store.undo())
        self.assertEqual((len(self.store), self.store.undo()), (0, False))


class TestMissing(StoresCase):
    def setUp(self):
        StoresCase.setUp(self)
        self.write("{ user(7) { age posts { likes } } user(8) { } feed { ... User { posts { } } } }", root(
            user7=user(age=1, posts=[post(likes=1), post(likes=None)]), user8=None,
            feed=[post(), user(posts=[]), user(posts=[post()])],
        ))

    def assert_missing(self, text, missing):
        with self.subTest(text):
            self.assertEqual(self.store.missing(self.query(text)), missing)
            self.assertEqual(self.store.read(self.query(text)) is None, missing is not None)
            self.assertEqual(self.store.witnesses(self.query(text)) is None, missing is None)

    def test_nothing(self):
        for text in ("{ }", "{ user(7) { age } }", "{ a: user(8) { age posts { likes author { age } } } }",
                     "{ x: user(7) { y: posts { z: likes } } feed { ... User { posts { } } } }"):
            self.assert_missing(text, None)

    def test_all(self):
        self.assert_missing("{ k: user(9) { x: age posts { likes } } }", "{ user(9) { age posts { likes } } }")

    def test_below_a_known_field(self):
        self.assert_missing("{ user(7) { age posts { likes author { } } } }", "{ user(7) { posts { author { } } } }")
        self.assert_missing("{ user(7) { a: posts { b: author { c: age } } } user(9) { } user(8) { age } }",
                            "{ user(7) { posts { author { age } } } user(9) { } }")

    def test_by_type(self):
        self.assert_missing("{ feed { ... User { age posts { } } ... Post { likes } } }",
                            "{ feed { ... User { age } ... Post { likes } } }")
        self.assert_missing("{ feed { ... User { posts { likes } } } }", "{ feed { ... User { posts { likes } } } }")

    def test_united_for_all_objects(self):
        schema = Schema((
            ("Q", (("m", False, "many", ("A", "B")),)), ("A", (("i", False, "int", ()), ("o", False, "one", ("A", "B")))),
            ("B", (("o", False, "one", ("A", "B")), ("p", False, "int", ()))),
        ))
        store = Store(schema)
        store.write(Query(schema, "{ m { ... A { o { ... A { i } } } ... B { o { ... B { p } } } } }"), {"Type": "Q", "m": [
            {"Type": "A", "o": {"Type": "A", "i": 1}}, {"Type": "A", "o": {"Type": "B"}}, {"Type": "A", "o": None},
            {"Type": "B", "o": {"Type": "A"}}, {"Type": "B", "o": {"Type": "B", "p": 1}},
        ]})
        query = Query(schema, "{ m { ... A { i o { ... A { i } ... B { p } } } ... B { o { ... A { i } ... B { p } } } } }")
        self.assertEqual(store.missing(query), "{ m { ... A { i o { ... B { p } } } ... B { o { ... A { i } } } } }")
        query = Query(schema, "{ m { ... A { o { ... A { i o { } } ... B { p } } } } }")
        self.assertEqual(store.missing(query), "{ m { ... A { o { ... A { o { } } ... B { p } } } } }")

    def test_objects_of_an_empty_list_and_of_none(self):
        self.store.undo()
        self.write("{ feed { } user(7) { } }", root(feed=[], user7=None))
        self.assert_missing("{ feed { ... User { age } ... Post { author { age } } } user(7) { posts { likes } } }", None)
        self.assert_missing("{ feed { ... User { age } } user(9) { age } }", "{ user(9) { age } }")


class TestRead(StoresCase):
    def test_out_of_several_writes(self):
        self.write("{ user(7) { posts { likes } } }", root(user7=user(posts=[post(likes=1), post(likes=2)])))
        self.write("{ a: user(7) { age posts { author { age } } } }",
                   root(a=user(age=0, posts=[post(author=None), post(author=user(age=-5))])))
        query = self.query("{ z: user(7) { x: age posts { author { age old: age } likes } } b: user(7) { } }")
        self.assertEqual(repr(self.store.read(query)), repr(root(b=user(), z=user(posts=[
            post(author=None, likes=1), post(author=user(age=-5, old=-5), likes=2),
        ], x=0))))

    def test_300_objects(self):
        self.write("{ feed { } user(7) { } }", root(feed=[post()] * 149, user7=user()))
        query = self.query("{ a: feed { } b: feed { } user(7) { } }")
        self.assertEqual(len(self.store.read(query)["a"]), 149)
        query = self.query("{ a: feed { } b: feed { } user(7) { } k: user(7) { } }")
        self.assert_raises(TooLarge, self.store.read, query)
        self.assertIsNone(self.store.missing(query))
        self.assertIsNone(self.store.witnesses(query))
        query = self.query("{ a: feed { } b: feed { } user(7) { } k: user(7) { age } }")
        self.assertIsNone(self.store.read(query))
        self.assertEqual(self.store.missing(query), "{ user(7) { age } }")

    def test_what_is_returned_is_new(self):
        text = "{ feed { ... User { posts { } } } k: feed { } }"
        self.write(text, root(feed=[user(posts=[post()]), post()], k=[user(), post()]))
        before, query = self.seen(text), self.query(text)
        first = self.store.read(query)
        told = [id(part) for part in dicts_in(first)]
        self.assertEqual(len(told), len(set(told)))
        first["feed"][0]["posts"].clear()
        first["feed"].pop()
        first["k"][0]["Type"] = "X"
        self.assertEqual(self.seen(text), before)


class TestGraph(StoresCase):
    def test_order_of_nodes(self):
        self.write("{ user(9) { posts { likes author { age } } } }", root(user9=user(posts=[
            post(likes=1, author=user(age=2)), post(likes=3, author=None), post(likes=None, author=user(age=None)),
        ])))
        self.write("{ user(10) { age } feed { ... User { age posts { } } } user(1) { } }", root(
            user10=user(age=4), feed=[user(age=5, posts=[post(), post()]), post(), user(age=None, posts=[])], user1=None,
        ))
        self.assertEqual(repr(self.store.graph()), repr((
            ("Query", {"feed": (1, 4, 5), "user10": 6, "user9": 7}),
            ("User", {"age": 5, "posts": (2, 3)}), ("Post", {}), ("Post", {}), ("Post", {}), ("User", {}),
            ("User", {"age": 4}),
            ("User", {"posts": (8, 10, 11)}), ("Post", {"author": 9, "likes": 1}), ("User", {"age": 2}),
            ("Post", {"likes": 3}), ("Post", {"author": 12}), ("User", {}),
        )))
        self.assertEqual(len(self.store.graph()), self.store.known_count())

    def test_keys_ascending_whatever_the_order_of_writes(self):
        for text, response in (
            ("{ user(9) { } }", root(user9=user())), ("{ user(10) { } }", root(user10=user())),
            ("{ feed { } }", root(feed=[post()])), ("{ a: user(7) { posts { } } }", root(a=user(posts=[]))),
            ("{ z: user(7) { age } }", root(z=user(age=0))),
        ):
            self.write(text, response)
        self.assertEqual(repr(self.store.graph()), repr((
            ("Query", {"feed": (1,), "user10": 2, "user7": 3, "user9": 4}), ("Post", {}), ("User", {}), ("User", {"age": 0}),
            ("User", {}),
        )))

    def test_fields_without_a_value(self):
        self.write("{ user(1) { } user(2) { age posts { } } feed { } }",
                   root(user1=None, user2=user(age=None, posts=[]), feed=[]))
        self.assertEqual(self.store.graph(), (("Query", {"user2": 1}), ("User", {})))

    def test_what_is_returned_is_new(self):
        self.write("{ user(2) { age } }", root(user2=user(age=3)))
        self.store.graph()[1][1]["age"] = 4
        self.store.graph()[0][1].clear()
        self.assertEqual(self.store.graph(), (("Query", {"user2": 1}), ("User", {"age": 3})))
        for graph in self.store.witnesses(self.query("{ user(2) { posts { } } }")):
            graph[1][1].clear()
        self.assertEqual(self.store.graph(), (("Query", {"user2": 1}), ("User", {"age": 3})))
        pair = self.store.witnesses(self.query("{ user(2) { posts { } } }"))
        told = [id(part) for part in dicts_in(pair)]
        self.assertEqual(len(told), len(set(told)))


class TestWitnesses(StoresCase):
    def setUp(self):
        StoresCase.setUp(self)
        self.told = [
            ("{ user(7) { posts { likes } } }", root(user7=user(posts=[post(likes=1), post(likes=2)]))),
            ("{ feed { } user(8) { } }", root(feed=[post(), user(), user()], user8=None)),
        ]
        for text, response in self.told:
            self.write(text, response)

    def assert_second(self, text, second):
        """The second witness; the first one is always the graph of what is known."""
        query = self.query(text)
        with self.subTest(text):
            found = self.store.witnesses(query)
            self.assertIsInstance(found, tuple)
            self.assertEqual(repr(found), repr((self.store.graph(), second)))
            for graph in found:
                for written, response in self.told:
                    self.assertEqual(evaluate(graph, self.query(written)), response)
            self.assertNotEqual(evaluate(found[0], query), evaluate(found[1], query))

    def test_none(self):
        for text in ("{ }", "{ feed { } }", "{ user(8) { age } }", "{ a: user(7) { posts { b: likes } } }"):
            self.assertIsNone(self.store.witnesses(self.query(text)))

    def test_a_field_of_the_root(self):
        feed = (("Post", {}), ("User", {}), ("User", {}))
        known = (("User", {"posts": (5, 6)}), ("Post", {"likes": 1}), ("Post", {"likes": 2}))
        self.assert_second("{ user(9) { age } }", (
            ("Query", {"feed": (1, 2, 3), "user7": 4, "user9": 7}), *feed, *known, ("User", {}),
        ))
        # Field keys, not keys, tell which one is first: user10 stands ahead of user7 and user9.
        self.assert_second("{ a: user(9) { age } b: user(10) { } c: user(7) { age } }", (
            ("Query", {"feed": (1, 2, 3), "user10": 4, "user7": 5}), *feed, ("User", {}), ("User", {"posts": (6, 7)}), *known[1:],
        ))

    def test_below_known_fields(self):
        feed = (("Query", {"feed": (1, 2, 3), "user7": 4}), ("Post", {}), ("User", {}), ("User", {}))
        self.assert_second("{ user(7) { age posts { likes } } user(9) { } }",
                           (*feed, ("User", {"age": 0, "posts": (5, 6)}), ("Post", {"likes": 1}), ("Post", {"likes": 2})))
        self.assert_second("{ user(7) { posts { author { age } } } user(9) { } }",
                           (*feed, ("User", {"posts": (5, 7)}), ("Post", {"author": 6, "likes": 1}), ("User", {}),
                            ("Post", {"likes": 2})))

    def test_objects_in_their_order(self):
        known = (("User", {"posts": (6, 7)}), ("Post", {"likes": 1}), ("Post", {"likes": 2}))
        self.assert_second("{ feed { ... User { posts { } } } user(7) { age } }", (
            ("Query", {"feed": (1, 2, 4), "user7": 5}), ("Post", {}), ("User", {"posts": (3,)}), ("Post", {}), ("User", {}), *known,
        ))
        self.assert_second("{ feed { ... User { posts { } } ... Post { author { } } } }", (
            ("Query", {"feed": (1, 3, 4), "user7": 5}), ("Post", {"author": 2}), ("User", {}), ("User", {}), ("User", {}), *known,
        ))

    def test_the_first_target(self):
        store = Store(self.schema)
        found = store.witnesses(self.query("{ feed { ... Post { likes } } }"))
        self.assertEqual(found, ((("Query", {}),), (("Query", {"feed": (1,)}), ("User", {}))))

    def test_a_second_object_of_a_list(self):
        schema = Schema((("T", (("i", False, "int", ()), ("m", False, "many", ("T", "U")))), ("U", (("j", False, "int", ()),))))
        store = Store(schema)
        store.write(Query(schema, "{ m { ... T { i m { } } } }"), {"Type": "T", "m": [
            {"Type": "T", "i": None, "m": []}, {"Type": "U"}, {"Type": "T", "i": 3, "m": [{"Type": "T"}, {"Type": "U"}]},
        ]})
        found = store.witnesses(Query(schema, "{ m { ... T { i m { ... U { j } } } } }"))
        first = (("T", {"m": (1, 2, 3)}), ("T", {}), ("U", {}), ("T", {"i": 3, "m": (4, 5)}), ("T", {}), ("U", {}))
        self.assertEqual(repr(found), repr((first, (*first[:5], ("U", {"j": 0})))))
        found = store.witnesses(Query(schema, "{ m { ... T { i m { ... U { j } } } ... U { j } } }"))
        self.assertEqual(repr(found[1]), repr((*first[:2], ("U", {"j": 0}), *first[3:])))


class TestTrials(StoresCase):
    TEXTS = ("{ user(7) { age } }", "{ user(7) { posts { } } }", "{ feed { } }")

    def setUp(self):
        StoresCase.setUp(self)
        self.write("{ user(7) { age } }", root(user7=user(age=1)))
        self.before = self.seen(*self.TEXTS)

    def assert_as_before(self):
        self.assertEqual(self.seen(*self.TEXTS), self.before)

    def test_a_trial(self):
        with self.store.tried() as store:
            self.assertIs(store, self.store)
            self.assertEqual(self.write("{ feed { } }", root(feed=[post()])), 3)
            self.assertEqual((len(store), store.known_count()), (2, 3))
            self.assertEqual(store.read(self.query("{ feed { } }")), root(feed=[post()]))
        self.assert_as_before()

    def test_an_error_within(self):
        for error in (KeyError, FieldError, StoreFull, KeyboardInterrupt):
            with self.assertRaises(error):
                with self.store.tried():
                    self.write("{ feed { } }", root(feed=[post()]))
                    self.store.undo()
                    self.store.undo()
                    raise error("within")
            self.assert_as_before()

    def test_an_error_of_the_store_within(self):
        with self.assertRaises(Contradiction):
            with self.store.tried() as store:
                self.write("{ feed { } }", root(feed=[post()]))
                store.write(self.query("{ feed { } }"), root(feed=[]))
        self.assert_as_before()

    def test_a_return_within(self):
        def work():
            with self.store.tried():
                return self.write("{ feed { } }", root(feed=[post()]))

        self.assertEqual(work(), 3)
        self.assert_as_before()

    def test_trials_within_trials(self):
        with self.store.tried():
            self.write("{ feed { } }", root(feed=[]))
            within = self.seen(*self.TEXTS)
            with self.store.tried() as store:
                store.undo()
                self.assert_as_before()
                self.write("{ feed { } }", root(feed=[post()]))
                with self.store.tried():
                    store.undo()
                    store.undo()
                    self.assertEqual(len(store), 0)
                self.assertEqual(store.read(self.query("{ feed { } }")), root(feed=[post()]))
            self.assertEqual(self.seen(*self.TEXTS), within)
        self.assert_as_before()

    def test_undo_within_a_trial_of_a_write_ahead_of_it(self):
        with self.store.tried() as store:
            self.assertTrue(store.undo())
            self.assertFalse(store.undo())
            self.assertEqual(self.write("{ user(7) { age } }", root(user7=user(age=2))), 2)
        self.assert_as_before()
        self.assertTrue(self.store.undo())
        self.assertFalse(self.store.undo())

    def test_as_it_was_when_the_trial_was_made(self):
        trial = self.store.tried()
        self.write("{ feed { } }", root(feed=[]))
        with trial as store:
            self.assertEqual(len(store), 2)
        self.assert_as_before()
        self.store.undo()
        with trial:
            self.assertEqual(len(self.store), 0)
        self.assert_as_before()

    def test_undo_behind_a_trial(self):
        with self.store.tried():
            self.write("{ }", root())
        self.assertEqual((self.store.undo(), self.store.undo()), (True, False))

    def test_foresee(self):
        self.assertEqual(self.store.foresee(self.query("{ feed { } }"), root(feed=[post(), user()])), 4)
        self.assert_as_before()
        self.assertEqual(self.store.foresee(self.query("{ feed { } }"), root(feed=[])), 2)
        self.assert_as_before()
        self.assertEqual(self.write("{ feed { } }", root(feed=[user()])), 3)

    def test_foresee_errors(self):
        self.assert_raises(NoMatch, self.store.foresee, self.query("{ feed { } }"), root(feed=None))
        self.assert_raises(Contradiction, self.store.foresee, self.query("{ user(7) { } }"), root(user7=None))
        self.assert_raises(StoreFull, self.store.foresee, self.query("{ feed { } }"), root(feed=[post()] * 199))
        self.assertEqual(self.store.foresee(self.query("{ feed { } }"), root(feed=[post()] * 198)), 200)
        self.assert_as_before()


class TestMadeUpStores(unittest.TestCase):
    def test_made_up_stores(self):
        for schema, seed in ((example_schema(), 91), (sides_schema(), 92), (wide_schema(), 93)):
            numbers = Numbers(seed)
            queries = some_queries(schema, numbers, 50)
            for _ in range(40):
                graphs = [any_graph(schema, numbers, 1 + numbers.below(4), 2) for _ in range(2)]
                self.assert_store(numbers, Store(schema), queries, graphs)

    def assert_store(self, numbers, store, queries, graphs):
        told = []
        for _ in range(6):
            query = numbers.one_of(queries)
            response = plain_response(graphs[0 if numbers.below(4) else 1], query)
            kept = copy.deepcopy(response)
            if numbers.below(5) == 0:
                self.assertEqual(store.undo(), len(told) > 0)
                told = told[:-1]
            else:
                told = told + self.written(store, told, query, response)
            self.assertEqual(repr(response), repr(kept))
            self.assertEqual(list(store), [query.text for query, _ in told])
            self.assertEqual(len(store), len(told))
            self.assert_told(store, told, [numbers.one_of(queries) for _ in range(5)] + [query for query, _ in told])

    def written(self, store, told, query, response):
        """Write to the store; what is told then, beyond what was."""
        facts = all_facts([*told, (query, response)])
        many = len(known_paths(facts))
        if are_unlike(facts) or many > 200:
            error = Contradiction if are_unlike(facts) else StoreFull
            self.assertRaises(error, store.foresee, query, response)
            self.assertRaises(error, store.write, query, response)
            return []
        self.assertEqual(store.foresee(query, response), many)
        self.assertEqual(store.write(query, response), many)
        return [(query, response)]

    def assert_told(self, store, told, queries):
        facts = dict([((), ("Type", store.schema.root))] + all_facts(told))
        graph = graph_by_facts(facts)
        self.assertEqual(repr(store.graph()), repr(graph))
        self.assertIsNone(check_graph(store.schema, graph))
        self.assertEqual(store.known_count(), len(graph))
        for query, response in told:
            self.assertEqual(plain_response(graph, query), response)
        for query in queries:
            self.assert_query(store, told, facts, query)

    def assert_query(self, store, told, facts, query):
        graph, form = store.graph(), field_form(query)
        missing = missing_chains(store.schema, form, facts, ())
        found = store.missing(query)
        self.assertEqual(found is None, not missing)
        if not missing:
            self.assertIsNone(store.witnesses(query))
            self.assertEqual(repr(store.read(query)), repr(plain_response(graph, query)))
            return
        self.assertIsNone(store.read(query))
        self.assertEqual(set(chains_of(store.schema, normal_form(store.schema, found))), missing)
        self.assertEqual(form_text(store.schema, normal_form(store.schema, found)), found)
        second = graph_by_facts({**facts, **first_unknown(store.schema, form, facts, ())})
        self.assertEqual(repr(store.witnesses(query)), repr((graph, second)))
        self.assertIsNone(check_graph(store.schema, second))
        for written, response in told:
            self.assertEqual(plain_response(second, written), response)
        self.assertNotEqual(plain_response(graph, query), plain_response(second, query))


def all_facts(told):
    return [fact for query, response in told for fact in facts_of(query, response)]


def objects_at(facts, path):
    """The paths of the objects that the value at a path tells, in order."""
    mark = facts[path]
    if not isinstance(mark, tuple):
        return []
    return [path] if mark[0] == "Type" else [(*path, at) for at in range(mark[1])]


def missing_chains(schema, form, facts, path):
    """The chains of a field form that are missing for the object at a path."""
    name = facts[path][1]
    missing = set()
    for key, (field, below) in form[name].items():
        step = (schema.names.index(name), name, key)
        if (*path, key) not in facts:
            missing |= set(chains_of(schema, {name: {key: (field, below)}}))
            continue
        for reached in objects_at(facts, (*path, key)):
            further = missing_chains(schema, below, facts, reached)
            missing |= {(step, *chain) for chain in further}
            missing |= {(step,)} if further else set()
    return missing


def first_unknown(schema, form, facts, path):
    """The facts of the first field of a field form that is not known, or no facts."""
    name = facts[path][1]
    for key, (field, below) in form[name].items():
        at = (*path, key)
        if at not in facts:
            return sample_facts(schema, name, field, at)
        for reached in objects_at(facts, at):
            found = first_unknown(schema, below, facts, reached)
            if found:
                return found
    return {}


def sample_facts(schema, name, field, path):
    kind, targets = schema.field_of(name, field[0])[2], schema.targets_of(name, field[0])
    if kind == "int":
        return {path: 0}
    if kind == "one":
        return {path: ("Type", targets[0])}
    return {path: ("length", 1), (*path, 0): ("Type", targets[0])}


def graph_by_facts(facts):
    """The graph of point 22: a path is less than another one if its object stands ahead of the other one."""
    paths = sorted(known_paths(facts.items()))
    numbers = {path: number for number, path in enumerate(paths)}
    nodes = []
    for path in paths:
        keys = sorted(at[-1] for at in facts if at and at[:-1] == path and isinstance(at[-1], str))
        values = {}
        for key in keys:
            at = (*path, key)
            reached = tuple(numbers[told] for told in objects_at(facts, at))
            if isinstance(facts[at], int):
                values[key] = facts[at]
            elif reached:
                values[key] = reached[0] if facts[at][0] == "Type" else reached
        nodes.append((facts[path][1], values))
    return tuple(nodes)


if __name__ == "__main__":
    unittest.main()
