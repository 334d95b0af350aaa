"""Points 2, 3, 20, 21 and 24: responses that match, and responses that are made out of other ones."""

import copy
import unittest

from fieldquery.errors import Contradiction, FieldError, NoMatch, NotDetermined, TooLarge
from fieldquery.graphs import evaluate, undetermined
from fieldquery.knowledge import matches, project
from fieldquery.queries import Query
from fieldquery.schemas import Schema
from samples import HostileDict, HostileInteger, HostileList, HostileText, Numbers, any_graph, are_unlike, dicts_in
from samples import example_schema, facts_of, plain_response, sides_schema, some_queries, strange_things, wide_schema
from samples import post, root, user


class KnowledgeCase(unittest.TestCase):
    def setUp(self):
        self.schema = example_schema()

    def query(self, text):
        return Query(self.schema, text)


class TestMatches(KnowledgeCase):
    def assert_matches(self, text, *responses):
        for at, response in enumerate(responses):
            with self.subTest((text, at)):
                self.assertIs(matches(self.query(text), response), True)

    def assert_none_matches(self, text, *responses):
        for at, response in enumerate(responses):
            with self.subTest((text, at)):
                self.assertIs(matches(self.query(text), response), False)

    def test_the_root(self):
        self.assert_matches("{ }", root())
        self.assert_none_matches("{ }", {}, {"Type": "User"}, {"Type": "Post"}, {"Type": None}, {"Type": 1}, {"type": "Query"},
                                 {"Type": "query"}, {"Type": ["Query"]}, {"Type": {}}, {"Type": ("Query",)}, [root()], (root(),))

    def test_kind_int(self):
        text = "{ user(7) { age } }"
        values = (-999, -998, -1, 0, 1, 998, 999, None)
        self.assert_matches(text, *[root(user7=user(age=value)) for value in values])
        others = (-1000, 1000, 10 ** 5000, True, False, "1", "", 1.0, [], [1], {}, user(), (), (1,), user(age=1), b"1")
        self.assert_none_matches(text, *[root(user7=user(age=value)) for value in others])

    def test_kind_one(self):
        text = "{ user(7) { age } }"
        self.assert_matches(text, root(user7=None), root(user7=user(age=None)))
        others = (0, 1, True, False, "User", [], [user(age=1)], (), (user(age=1),), {}, {"age": 1}, user(), post(age=1),
                  root(age=1), {"Type": "X", "age": 1}, {"Type": None, "age": 1}, user(age=1, posts=[]), user(Age=1))
        self.assert_none_matches(text, *[root(user7=value) for value in others])

    def test_kind_many(self):
        text = "{ feed { ... User { age } } }"
        lists = ([], [user(age=1)], [post()], [post(), user(age=None), post()], [user(age=1)] * 500)
        self.assert_matches(text, *[root(feed=value) for value in lists])
        others = (None, 0, True, "", {}, (), (post(),), user(age=1), post(), [None], [post(), None], [0], [[]], [[post()]],
                  [user()], [post(age=1)], [root()], [post(), {}], [post(), "Post"], {0: post()}, range(0), iter([]))
        self.assert_none_matches(text, *[root(feed=value) for value in others])

    def test_keys(self):
        text = "{ a: user(7) { } user(8) { } }"
        self.assert_matches(text, root(a=None, user8=None), root(a=user(), user8=user()), root(user8=None, a=None),
                            {"user8": user(), "a": None, "Type": "Query"})
        self.assert_none_matches(text, root(), root(a=None), root(user8=None), root(a=None, user8=None, user7=None),
                                 root(a=None, user7=None), root(user7=None, user8=None), root(a=None, user=None),
                                 {"a": None, "user8": None}, {**root(a=None, user8=None), 1: 2}, {**root(a=None), 1: None},
                                 {**root(a=None), None: None}, {**root(a=None, user8=None), "": None},
                                 {**root(a=None), b"user8": None}, {**root(a=None), ("user", 8): None})

    def test_keys_by_type(self):
        text = "{ feed { ... User { age } ... Post { k: likes } } }"
        self.assert_matches(text, root(feed=[post(k=1), user(age=1)]))
        self.assert_none_matches(text, root(feed=[post(age=1)]), root(feed=[user(k=1)]), root(feed=[post(k=1, age=1)]),
                                 root(feed=[post(likes=1)]), root(feed=[post(k=1), user(age=1), user(age=1, k=1)]))

    def test_types_that_are_no_targets(self):
        self.assert_none_matches("{ user(7) { } }", root(user7=post()), root(user7=root()), root(user7={"Type": "X"}))
        self.assert_none_matches("{ feed { } }", root(feed=[root()]), root(feed=[user(), root()]))
        self.assert_none_matches("{ user(7) { posts { } } }", root(user7=user(posts=[user()])))
        self.assert_matches("{ user(7) { posts { author { } } } }", root(user7=user(posts=[post(author=user())])))

    def test_two_keys_with_the_same_field(self):
        text = "{ user(7) { a: age b: age } }"
        self.assert_matches(text, root(user7=user(a=3, b=3)), root(user7=user(a=None, b=None)), root(user7=None))
        self.assert_none_matches(text, root(user7=user(a=3, b=4)), root(user7=user(a=None, b=0)), root(user7=user(a=0, b=None)))
        text = "{ user(7) { } k: user(7) { } }"
        self.assert_matches(text, root(user7=user(), k=user()), root(user7=None, k=None))
        self.assert_none_matches(text, root(user7=None, k=user()), root(user7=user(), k=None))
        text = "{ feed { } f: feed { ... User { age } } }"
        self.assert_matches(text, root(feed=[], f=[]), root(feed=[user(), post()], f=[user(age=1), post()]))
        self.assert_none_matches(text, root(feed=[], f=[post()]), root(feed=[post()], f=[]), root(feed=[post()], f=[user(age=1)]),
                                 root(feed=[post(), user()], f=[user(age=1), post()]), root(feed=[post()], f=[post(), post()]))
        self.assert_matches("{ a: user(1) { age } b: user(2) { age } }", root(a=user(age=1), b=user(age=2)), root(a=None, b=user(age=1)))

    def test_unlike_values_below_two_keys(self):
        text = "{ a: user(7) { age } b: user(7) { age posts { likes } } c: user(7) { x: posts { y: likes } } }"

        def told(a=1, b=1, likes=2, y=2):
            return root(a=user(age=a), b=user(age=b, posts=[post(likes=likes)]), c=user(x=[post(y=y)]))

        self.assert_matches(text, told(), told(a=None, b=None), told(likes=None, y=None), root(a=None, b=None, c=None))
        self.assert_none_matches(text, told(a=2), told(b=None), told(likes=3), told(y=None), {**told(), "a": None},
                                 {**told(), "c": user(x=[])}, {**told(), "c": user(x=[post(y=2)] * 2)})

    def test_lists_of_any_length(self):
        text = "{ feed { } }"
        self.assert_matches(text, root(feed=[post()] * 11), root(feed=[post()] * 1000))

    def test_strange_things(self):
        users, feeds = "{ user(7) { age } }", "{ feed { ... User { posts { author { age } } } } }"
        for thing in strange_things():
            self.assert_none_matches("{ }", thing, [thing], {"Type": thing})
            self.assert_none_matches(users, thing, root(user7=[thing]), root(user7={"Type": thing, "age": 1}))
            self.assert_none_matches(feeds, thing, root(feed=(thing,)), root(feed=[thing]), root(feed=[{"Type": thing}]))
            if thing is not None and type(thing) is not int:
                self.assert_none_matches(users, root(user7=thing), root(user7=user(age=thing)))
            # An empty list is a value of feed and of posts.
            if type(thing) is not list or thing:
                self.assert_none_matches(feeds, root(feed=thing), root(feed=[user(posts=thing)]))

    def test_hostile_objects(self):
        text = "{ user(7) { age } feed { } }"
        self.assert_matches(text, root(user7=user(age=1), feed=[]))
        self.assert_none_matches(
            text, HostileDict(root(user7=None, feed=[])), root(user7=HostileDict(user(age=1)), feed=[]),
            root(user7=user(age=HostileInteger(1)), feed=[]), root(user7=None, feed=HostileList()),
            root(user7=None, feed=[HostileDict(post())]), {"Type": HostileText("Query"), "user7": None, "feed": []},
            {"Type": "Query", HostileText("user7"): None, "feed": []}, {HostileText("Type"): "Query", "user7": None, "feed": []},
            root(user7={"Type": HostileText("User"), "age": 1}, feed=[]),
        )

    def test_responses_that_hold_themselves(self):
        own = user(posts=[])
        own["posts"].append(post(author=own))
        self.assert_none_matches("{ user(7) { posts { author { age } } } }", root(user7=own))
        self.assert_matches("{ user(7) { posts { author { posts: age } } } }",
                            root(user7=user(posts=[post(author=user(posts=1))])))

    def test_responses_of_graphs(self):
        for schema, seed in ((example_schema(), 61), (sides_schema(), 62), (wide_schema(), 63)):
            numbers = Numbers(seed)
            queries = some_queries(schema, numbers, 30)
            for _ in range(10):
                graph = any_graph(schema, numbers, 1 + numbers.below(6))
                for query in queries:
                    response = plain_response(graph, query)
                    self.assertIs(matches(query, response), True)
                    self.assert_turned(numbers, query, response)

    def assert_turned(self, numbers, query, response):
        """A response with one thing turned matches exactly if each path tells like values; a key too few never does."""
        turned = copy.deepcopy(response)
        part = numbers.one_of(parts_of(turned))
        choices = [key for key in part if type(part[key]) is int]
        if choices:
            part[numbers.one_of(choices)] += 1
            self.assertIs(matches(query, turned), not are_unlike(facts_of(query, turned)))
        lists = [key for key in part if type(part[key]) is list and part[key]]
        if lists:
            part[numbers.one_of(lists)].pop()
            self.assertIs(matches(query, turned), not are_unlike(facts_of(query, turned)))
        del part[numbers.one_of(list(part))]
        self.assertIs(matches(query, turned), False)


def parts_of(response):
    return [found for found in dicts_in(response) if isinstance(found, dict)]


class TestProject(KnowledgeCase):
    def project(self, pairs, text):
        return project([self.query(told) for told, _ in pairs], [response for _, response in pairs], self.query(text))

    def assert_response(self, pairs, text, response):
        with self.subTest((pairs, text)):
            self.assertEqual(repr(self.project(pairs, text)), repr(response))

    def assert_error(self, error, pairs, text):
        with self.subTest((pairs, text)):
            with self.assertRaises(error) as caught:
                self.project(pairs, text)
            self.assertIsInstance(caught.exception, FieldError)
            return caught.exception

    def test_no_queries(self):
        self.assert_response([], "{ }", root())
        self.assert_error(NotDetermined, [], "{ user(7) { } }")

    def test_one_query(self):
        pairs = [("{ me: user(7) { age posts { likes } } feed { ... User { age } } }",
                  root(me=user(age=3, posts=[post(likes=1), post(likes=2)]), feed=[post(), user(age=0)]))]
        self.assert_response(pairs, "{ }", root())
        self.assert_response(pairs, "{ user(7) { age } }", root(user7=user(age=3)))
        self.assert_response(pairs, "{ z: user(7) { b: age a: posts { x: likes } } a: feed { } }",
                             root(a=[post(), user()], z=user(a=[post(x=1), post(x=2)], b=3)))
        self.assert_response(pairs, "{ feed { ... User { years: age age } } }",
                             root(feed=[post(), user(age=0, years=0)]))

    def test_several_queries(self):
        pairs = [
            ("{ user(7) { posts { likes } } }", root(user7=user(posts=[post(likes=1), post(likes=None)]))),
            ("{ a: user(7) { posts { author { age } } } }",
             root(a=user(posts=[post(author=user(age=5)), post(author=None)]))),
            ("{ feed { } }", root(feed=[])),
        ]
        self.assert_response(pairs, "{ user(7) { posts { likes author { age } } } feed { } }", root(feed=[], user7=user(posts=[
            post(author=user(age=5), likes=1), post(author=None, likes=None),
        ])))

    def test_values_that_are_none(self):
        pairs = [("{ user(7) { age } }", root(user7=None)), ("{ user(7) { posts { likes } } }", root(user7=None))]
        self.assert_response(pairs, "{ k: user(7) { age posts { likes } } }", root(k=None))

    def test_what_is_returned_is_new(self):
        pairs = [("{ feed { ... User { posts { } } } }", root(feed=[user(posts=[post()]), user(posts=[])]))]
        kept = copy.deepcopy(pairs)
        first, second = [self.project(pairs, "{ a: feed { ... User { posts { } } } feed { } }") for _ in range(2)]
        self.assertEqual(pairs, kept)
        told = [id(part) for part in dicts_in(first) + dicts_in(second) + dicts_in(pairs)]
        self.assertEqual(len(told), len(set(told)))

    def test_not_determined(self):
        for texts, text in (
            (["{ user(7) { } }"], "{ user(7) { age } }"), (["{ user(7) { age } }"], "{ user(8) { } }"),
            (["{ feed { ... User { age } } }"], "{ feed { ... Post { likes } } }"),
        ):
            for response in (root(user7=None), root(feed=[]), None, 7):
                self.assert_error(NotDetermined, [(told, response) for told in texts], text)
        # The responses would tell it, but the queries do not.
        self.assert_error(NotDetermined, [("{ user(7) { } }", root(user7=None))], "{ user(7) { age } }")

    def test_no_match(self):
        good, bad = ("{ user(7) { age } }", root(user7=user(age=1))), ("{ feed { } }", root(feed=None))
        for pairs, index in (([bad], 0), ([good, bad], 1), ([bad, good], 0), ([good, good, bad, bad], 2)):
            self.assertEqual(self.assert_error(NoMatch, pairs, "{ }").index, index)
        unlike = ("{ user(7) { a: age b: age } }", root(user7=user(a=1, b=2)))
        self.assertEqual(self.assert_error(NoMatch, [good, unlike], "{ }").index, 1)
        self.assertEqual(self.assert_error(NoMatch, [good, ("{ }", [])], "{ }").index, 1)

    def test_contradictions(self):
        users, feeds = "{ user(7) { age } }", "{ feed { ... User { age } } }"
        for text, first, second in (
            (users, root(user7=user(age=1)), root(user7=user(age=2))),
            (users, root(user7=user(age=1)), root(user7=user(age=None))),
            (users, root(user7=user(age=0)), root(user7=user(age=None))),
            (users, root(user7=None), root(user7=user(age=None))),
            (feeds, root(feed=[]), root(feed=[post()])),
            (feeds, root(feed=[post()]), root(feed=[post(), post()])),
            (feeds, root(feed=[post()]), root(feed=[user(age=1)])),
            (feeds, root(feed=[post(), user(age=1)]), root(feed=[user(age=1), post()])),
            (feeds, root(feed=[post(), user(age=1)]), root(feed=[post(), user(age=2)])),
        ):
            for pairs in ([(text, first), (text, second)], [(text, second), ("{ }", root()), (text, first)]):
                self.assert_error(Contradiction, pairs, "{ }")
                self.assert_error(Contradiction, pairs, text)
            for response in (first, second):
                self.assertEqual(self.project([(text, response)] * 3, text), response)

    def test_contradictions_of_one_key_and_another(self):
        self.assert_error(Contradiction, [("{ a: user(7) { age } }", root(a=user(age=1))),
                                          ("{ b: user(7) { x: age } }", root(b=user(x=2)))], "{ }")
        self.assert_error(Contradiction, [("{ a: user(7) { } }", root(a=None)), ("{ user(7) { } }", root(user7=user()))], "{ }")
        # The same keys with different fields tell of different objects.
        pairs = [("{ a: user(7) { age } }", root(a=user(age=1))), ("{ a: user(8) { age } }", root(a=user(age=2)))]
        self.assert_response(pairs, "{ user(8) { age } user(7) { age } }", root(user7=user(age=1), user8=user(age=2)))

    def test_no_contradictions(self):
        # Different objects may well be the same node: what one tells of them says nothing of the other.
        pairs = [("{ user(7) { age } }", root(user7=user(age=1))), ("{ user(8) { age } }", root(user8=user(age=2))),
                 ("{ feed { ... User { age } } }", root(feed=[user(age=1), user(age=2), user(age=None)]))]
        self.assert_response(pairs, "{ user(7) { age } }", root(user7=user(age=1)))

    def test_order_of_errors(self):
        first, second = ("{ user(7) { age } }", root(user7=user(age=1))), ("{ user(7) { age } }", root(user7=user(age=2)))
        bad, large = ("{ feed { } }", root(feed=None)), ("{ feed { } }", root(feed=[post()] * 300))
        self.assert_error(NotDetermined, [first, second, bad], "{ user(8) { } }")
        self.assertEqual(self.assert_error(NoMatch, [first, second, bad], "{ feed { } }").index, 2)
        self.assert_error(Contradiction, [large, first, second], "{ feed { } }")
        self.assert_error(TooLarge, [large, first], "{ feed { } }")

    def test_too_large(self):
        for length in (298, 299):
            self.assertEqual(len(self.project([("{ feed { } }", root(feed=[post()] * length))], "{ feed { } }")["feed"]), length)
        for length in (300, 301, 2000):
            pairs = [("{ feed { } }", root(feed=[post()] * length))]
            self.assert_error(TooLarge, pairs, "{ feed { } }")
            self.assert_response(pairs, "{ }", root())
        pairs = [("{ feed { } user(7) { } }", root(feed=[post()] * 149, user7=user()))]
        self.assertEqual(len(self.project(pairs, "{ a: feed { } b: feed { } user(7) { } }")["b"]), 149)
        self.assert_error(TooLarge, pairs, "{ a: feed { } b: feed { } user(7) { } k: user(7) { } }")

    def test_made_up_responses(self):
        for schema, seed in ((example_schema(), 71), (sides_schema(), 72), (wide_schema(), 73)):
            numbers = Numbers(seed)
            queries = some_queries(schema, numbers, 40, 2)
            for _ in range(100):
                graph = any_graph(schema, numbers, 1 + numbers.below(4), 2)
                told = [numbers.one_of(queries) for _ in range(1 + numbers.below(4))]
                self.assert_projection(schema, graph, told, numbers.one_of(queries + told))

    def assert_projection(self, schema, graph, queries, query):
        responses = [plain_response(graph, told) for told in queries]
        if undetermined(queries, query) is not None:
            self.assertRaises(NotDetermined, project, queries, responses, query)
            return
        try:
            wanted = evaluate(graph, query)
        except TooLarge:
            self.assertRaises(TooLarge, project, queries, responses, query)
            return
        self.assertEqual(repr(project(queries, responses, query)), repr(wanted))

    def test_made_up_contradictions(self):
        for schema, seed in ((example_schema(), 81), (sides_schema(), 82), (wide_schema(), 83)):
            numbers = Numbers(seed)
            queries = [query for query in some_queries(schema, numbers, 60) if query.text != "{ }"]
            empty, found = Query(schema, "{}"), 0
            for _ in range(300):
                graphs = [any_graph(schema, numbers, 2, 1) for _ in range(2)]
                told = [numbers.one_of(queries) for _ in graphs]
                responses = [plain_response(graph, query) for graph, query in zip(graphs, told)]
                facts = [fact for query, response in zip(told, responses) for fact in facts_of(query, response)]
                if are_unlike(facts):
                    found += 1
                    self.assertRaises(Contradiction, project, told, responses, empty)
                else:
                    self.assertEqual(project(told, responses, empty), {"Type": schema.root})
            self.assertTrue(20 < found < 280, found)


class TestOneType(unittest.TestCase):
    def test_all_kinds_lead_to_the_root_type(self):
        schema = Schema((("T", (("i", False, "int", ()), ("o", False, "one", ("T",)), ("m", True, "many", ("T",)))),))
        queries = [Query(schema, text) for text in ("{ o { i } m(0) { o { i } } }", "{ i o { o { } } }")]
        responses = [
            {"Type": "T", "m0": [{"Type": "T", "o": {"Type": "T", "i": 3}}], "o": {"Type": "T", "i": 2}},
            {"Type": "T", "i": 1, "o": {"Type": "T", "o": None}},
        ]
        query = Query(schema, "{ i o { i o { } } m(0) { o { i } } }")
        self.assertEqual(project(queries, responses, query), {
            "Type": "T", "i": 1, "m0": responses[0]["m0"], "o": {"Type": "T", "i": 2, "o": None},
        })


if __name__ == "__main__":
    unittest.main()
