"""Points 6, 7 and 8: the grammar of queries, how deep brackets may lie, and the offsets of faults."""

import functools
import unittest

from fieldquery.errors import FieldError, SyntaxFault
from fieldquery.reading import read_query


def field(name, entries=None, *, key=None, number=None):
    return ("field", key, name, number, entries)


def fragment(type_name, *entries):
    return ("fragment", type_name, entries)


class ReadingCase(unittest.TestCase):
    def assert_entries(self, text, *entries):
        with self.subTest(text[:80]):
            self.assertEqual(read_query(text), entries)

    def assert_fault(self, text, offset):
        with self.subTest(text[:80]):
            with self.assertRaises(SyntaxFault) as caught:
                read_query(text)
            self.assertEqual(caught.exception.offset, offset)
            self.assertIsInstance(caught.exception, FieldError)

    def assert_fault_at_mark(self, text):
        """The fault is where the mark stands; the mark is no part of the text."""
        self.assert_fault(text.replace("^", ""), text.index("^"))


class TestEntries(ReadingCase):
    def test_example(self):
        likes = fragment("Post", field("likes"))
        me = field("user", (field("age"),), key="u", number=7)
        self.assert_entries("{ u: user(7) { age } ... Post { likes } }", me, likes)

    def test_no_entries(self):
        self.assert_entries("{}")
        self.assert_entries("{ }")

    def test_fields(self):
        self.assert_entries("{ a }", field("a"))
        self.assert_entries("{ a b a }", field("a"), field("b"), field("a"))

    def test_keys(self):
        self.assert_entries("{ k: a }", field("a", key="k"))
        self.assert_entries("{ a: a }", field("a", key="a"))
        self.assert_entries("{ a b: c d }", field("a"), field("c", key="b"), field("d"))
        self.assert_entries("{ a: b c: d }", field("b", key="a"), field("d", key="c"))

    def test_a_written_key_that_is_the_field_key_stays(self):
        self.assert_entries("{ user7: user(7) }", field("user", key="user7", number=7))

    def test_numbers(self):
        for number in (0, 1, 7, 9, 10, 42, 90, 99):
            self.assert_entries(f"{{ a({number}) }}", field("a", number=number))
            self.assert_entries(f"{{ k : a ( {number} ) {{ }} }}", field("a", (), key="k", number=number))

    def test_numbers_are_integers(self):
        self.assertIs(type(read_query("{ a(7) }")[0][3]), int)

    def test_selections(self):
        self.assert_entries("{ a { } }", field("a", ()))
        self.assert_entries("{ a { b } c }", field("a", (field("b"),)), field("c"))
        self.assert_entries("{ k: a(3) { b { c } } }", field("a", (field("b", (field("c"),)),), key="k", number=3))

    def test_a_selection_without_entries_is_not_none(self):
        self.assertEqual(read_query("{a{}}")[0][4], ())
        self.assertIsNone(read_query("{a}")[0][4])

    def test_fragments(self):
        self.assert_entries("{ ... T { } }", fragment("T"))
        self.assert_entries("{ ... T { a } b ... U { c d } }", fragment("T", field("a")), field("b"),
                            fragment("U", field("c"), field("d")))

    def test_fragments_within_fragments(self):
        inner = fragment("U", fragment("T"), field("b"))
        self.assert_entries("{ ... T { a ... U { ... T { } b } c } }", fragment("T", field("a"), inner, field("c")))

    def test_fragments_within_selections(self):
        self.assert_entries("{ a { ... T { b } } }", field("a", (fragment("T", field("b")),)))

    def test_all_is_tuples(self):
        entries = read_query("{ a { ... T { b } } }")
        self.assertIs(type(entries), tuple)
        self.assertIs(type(entries[0]), tuple)
        self.assertIs(type(entries[0][4]), tuple)
        self.assertIs(type(entries[0][4][0]), tuple)
        self.assertIs(type(entries[0][4][0][2]), tuple)

    def test_the_length_is_not_looked_at(self):
        self.assert_entries("{" + " a" * 5000 + "}", *[field("a")] * 5000)
        self.assert_entries(" " * 401 + "{}")
        self.assert_fault("{" + "a " * 1000, 2001)


class TestSigns(ReadingCase):
    def test_no_spaces(self):
        self.assert_entries("{k:a(7){b}...T{c}d}", field("a", (field("b"),), key="k", number=7),
                            fragment("T", field("c")), field("d"))
        self.assert_entries("{a...T{b...U{}}}", field("a"), fragment("T", field("b"), fragment("U")))
        self.assert_entries("{a(1)b(22)c}", field("a", number=1), field("b", number=22), field("c"))
        self.assert_entries("{a{}b}", field("a", ()), field("b"))

    def test_many_spaces_and_newlines(self):
        told = field("a", (field("b"),), key="k", number=7), fragment("T", field("c"))
        signs = "{ k : a ( 7 ) { b } ... T { c } }"
        for blank in (" ", "\n", "  ", "\n\n", " \n \n ", "\n  \n"):
            self.assert_entries(blank + signs.replace(" ", blank) + blank, *told)

    def test_no_blanks_but_spaces_and_newlines(self):
        for blank in "\t\r\f\v,\u00a0\u2028\u3000\ufeff":
            self.assert_fault_at_mark(f"^{blank}{{ a }}")
            self.assert_fault_at_mark(f"{{^{blank}a }}")
            self.assert_fault_at_mark(f"{{ a }}\n ^{blank}")

    def test_words(self):
        for word in ("a", "z", "a1", "z0", "a1b2", "abcdefghij", "z123456789", "aaaaaaaaa", "a007"):
            self.assert_entries(f"{{ {word} }}", field(word))
            self.assert_entries(f"{{{word}:{word}}}", field(word, key=word))

    def test_words_that_are_too_long(self):
        for word in ("abcdefghijk", "a1234567890", "a" * 12, "a" * 400):
            self.assert_fault_at_mark(f"{{ ^{word} }}")
            self.assert_fault_at_mark(f"{{ a ^{word} }}")
            self.assert_fault_at_mark(f"{{ k: ^{word} }}")
            self.assert_fault_at_mark(f"{{ ^{word}: a }}")

    def test_types(self):
        for name in ("A", "Z", "Aa", "AZ", "Zz", "Abcdefgh", "ABCDEFGH", "AbCdEfG"):
            self.assert_entries(f"{{ ... {name} {{ }} }}", fragment(name))
            self.assert_entries(f"{{...{name}{{}}}}", fragment(name))

    def test_types_that_are_too_long(self):
        for name in ("Abcdefghi", "ABCDEFGHI", "A" * 10, "Zaaaaaaaaaaaa"):
            self.assert_fault_at_mark(f"{{ ... ^{name} {{ }} }}")

    def test_numbers_that_are_none(self):
        for number in ("00", "01", "07", "007", "000", "100", "999", "1234567890"):
            self.assert_fault_at_mark(f"{{ a(^{number}) }}")
            self.assert_fault_at_mark(f"{{ a ( ^{number} ) }}")

    def test_where_one_sign_ends_the_next_one_begins(self):
        self.assert_fault_at_mark("{ ab^C }")
        self.assert_fault_at_mark("{ ...T^1{} }")
        self.assert_fault_at_mark("{ a(7^b) }")
        self.assert_fault_at_mark("{ a(7^B) }")
        self.assert_fault_at_mark("{ a(7 ^8) }")

    def test_dots(self):
        self.assert_fault_at_mark("{ ^. T { } }")
        self.assert_fault_at_mark("{ ^.. T { } }")
        self.assert_fault_at_mark("{ ^.. . T { } }")
        self.assert_fault_at_mark("{ ...^. T { } }")
        self.assert_fault_at_mark("{ ...^... T { } }")
        self.assert_fault_at_mark("{ ^..")
        self.assert_fault_at_mark("{ a ^.")

    def test_characters_that_begin_no_sign(self):
        for character in "_-+.,;!?$@#/\\|&*<>[]=\"'`~^" + "\u00e4\u00c4\u00df\u0430\u0391\u0660\u00b2\uff11\u2026\x00":
            self.assert_fault(character, 0)
            self.assert_fault(f"{{ {character} }}", 2)
            self.assert_fault(f"{{ a{character} }}", 3)
            self.assert_fault(f"{{ ...T{character} }}", 6)
            self.assert_fault(f"{{ a(1{character}) }}", 5)
            self.assert_fault(f"{{ a }}{character}", 5)


class TestOffsets(ReadingCase):
    def test_example(self):
        self.assert_fault_at_mark("{ user(7 ^{ age } }")

    def test_wrong_kind_at_the_start(self):
        for text in ("}", "(", ")", ":", "...", "a", "T", "7", "a }", "...T{}"):
            self.assert_fault(text, 0)
            self.assert_fault(" \n" + text, 2)

    def test_wrong_kind_for_an_entry(self):
        for sign in "{():T7":
            self.assert_fault_at_mark(f"{{ ^{sign} }}")
            self.assert_fault_at_mark(f"{{ a {{ }} ^{sign} }}")
            self.assert_fault_at_mark(f"{{ a {{ ^{sign} }} }}")
            self.assert_fault_at_mark(f"{{ ... T {{ ^{sign} }} }}")

    def test_wrong_kind_behind_a_name(self):
        for sign in ")T7":
            self.assert_fault_at_mark(f"{{ a ^{sign} }}")

    def test_wrong_kind_behind_a_key(self):
        for sign in ("{", "}", "(", ")", ":", "...", "T", "7"):
            self.assert_fault_at_mark(f"{{ k: ^{sign} }}")

    def test_wrong_kind_behind_a_key_and_a_name(self):
        for sign in ":)T7":
            self.assert_fault_at_mark(f"{{ k: a ^{sign} }}")

    def test_wrong_kind_for_a_number(self):
        for sign in ("{", "}", "(", ")", ":", "...", "T", "a"):
            self.assert_fault_at_mark(f"{{ a( ^{sign} }}")

    def test_wrong_kind_behind_a_number(self):
        for sign in ("{", "}", "(", ":", "...", "T", "a", "7"):
            self.assert_fault_at_mark(f"{{ a(7 ^{sign} }}")

    def test_wrong_kind_behind_an_argument(self):
        for sign in "():T7":
            self.assert_fault_at_mark(f"{{ a(7) ^{sign} }}")

    def test_wrong_kind_behind_a_selection(self):
        self.assert_fault_at_mark("{ a { } ^{ } }")
        self.assert_fault_at_mark("{ a { } ^(7) }")
        self.assert_fault_at_mark("{ a { } ^: b }")

    def test_wrong_kind_for_a_type(self):
        for sign in ("{", "}", "(", ")", ":", "...", "a", "7"):
            self.assert_fault_at_mark(f"{{ ... ^{sign} }}")

    def test_wrong_kind_behind_a_type(self):
        for sign in ("}", "(", ")", ":", "...", "a", "T", "7"):
            self.assert_fault_at_mark(f"{{ ... T ^{sign} }}")

    def test_wrong_kind_behind_a_fragment(self):
        for sign in "{():T7":
            self.assert_fault_at_mark(f"{{ ... T {{ }} ^{sign} }}")

    def test_behind_the_end(self):
        for sign in ("{", "}", "(", ")", ":", "...", "a", "T", "7", "{}", "{ a }", "07", "?"):
            self.assert_fault_at_mark(f"{{ a }}^{sign}")
            self.assert_fault_at_mark(f"{{}} \n ^{sign} }}")

    def test_ends_too_early(self):
        whole = "{ k : a ( 7 ) { b } ... T { c { } d } e }"
        for length in range(len(whole)):
            if whole[:length].endswith((" .", " ..")):
                # One dot or two are no sign, even where the text ends.
                self.assert_fault(whole[:length], whole.index("..."))
            else:
                self.assert_fault(whole[:length], length)

    def test_empty_texts(self):
        for text in ("", " ", "\n", "   ", " \n \n "):
            self.assert_fault(text, len(text))

    def test_ends_too_early_with_blanks_behind(self):
        self.assert_fault("{  ", 3)
        self.assert_fault("{ a \n\n", 6)
        self.assert_fault(" { a { } \n", 10)

    def test_the_first_fault_counts(self):
        self.assert_fault_at_mark("{ a ^) ? }")
        self.assert_fault_at_mark("{ a ^? ) }")
        self.assert_fault_at_mark("{ a(^07) } ?")
        self.assert_fault_at_mark("{ a ^T abcdefghijk")
        self.assert_fault_at_mark("{ ^abcdefghijk T")
        self.assert_fault_at_mark("{ a } ^} ?")
        self.assert_fault_at_mark("{ a ^?")

    def test_a_long_run_counts_from_where_it_begins(self):
        self.assert_fault_at_mark("{ a ... T { ^abcdefghijk")
        self.assert_fault_at_mark("{ a ... ^Abcdefghi")
        self.assert_fault_at_mark("{ a(^100")

    def test_a_run_that_is_too_long_is_no_sign_of_the_wrong_kind(self):
        self.assert_fault_at_mark("{ a(^abcdefghijk) }")
        self.assert_fault_at_mark("^100")


def nested(*openings, inside=""):
    """Brackets behind each of these openings, in one another."""
    return "{" + "".join(f"{opening}{{" for opening in openings) + inside + "}" * (len(openings) + 1)


class TestDepth(ReadingCase):
    def test_selections_as_deep_as_they_may_lie(self):
        deep = field("a", (field("b", (field("c", (field("d"),)),)),))
        self.assert_entries("{a{b{c{d}}}}", deep)
        self.assert_entries("{a{b{c{}}}}", field("a", (field("b", (field("c", ()),)),)))

    def test_selections_too_deep(self):
        self.assert_fault_at_mark("{a{b{c{d^{}}}}}")
        self.assert_fault_at_mark("{ a { b { c { d ^{ e } } } } }")
        self.assert_fault_at_mark("{ a { b { c { d ^{ ")
        self.assert_fault_at_mark("{ a { b { c { k: d(7) ^{ } } } } }")

    def test_fragments_do_not_count_as_selections(self):
        text = nested("a", "...T", "b", "...T", "c", inside="d")
        inner = field("b", (fragment("T", field("c", (field("d"),))),))
        self.assert_entries(text, field("a", (fragment("T", inner),)))
        text = nested("a", "...T", "b", "...T", "c", "...T", inside="d")
        inner = field("b", (fragment("T", field("c", (fragment("T", field("d")),))),))
        self.assert_entries(text, field("a", (fragment("T", inner),)))

    def test_selections_too_deep_with_fragments_between(self):
        self.assert_fault_at_mark("{a{...T{b{...T{c{d^{}}}}}}}")
        self.assert_fault_at_mark("{...T{a{b{c{d^{}}}}}}")
        self.assert_fault_at_mark("{a{b{c{...T{d^{}}}}}}")

    def test_seven_brackets(self):
        for openings in (
            ["...T"] * 6, ["...T", "a"] * 3, ["a", "...T"] * 3, ["a", "a", "a", "...T", "...T", "...T"],
            ["...T"] * 3 + ["a"] * 3, ["...T"] * 5 + ["a"], ["a"] + ["...T"] * 5,
        ):
            for inside in ("", "b", "k:b(7)"):
                with self.subTest((openings, inside)):
                    self.assertEqual(len(read_query(nested(*openings, inside=inside))), 1)

    def test_eight_brackets_by_a_fragment(self):
        for openings in (
            ["...T"] * 6, ["...T", "a"] * 3, ["a", "...T"] * 3, ["a", "a", "a", "...T", "...T", "...T"],
        ):
            opened = "{" + "".join(f"{opening}{{" for opening in openings)
            for rest in ("...T{}", "...", "... T { } }", "...7", "...?"):
                self.assert_fault(opened + rest, len(opened))
                self.assert_fault(opened + "b " + rest, len(opened) + 2)

    def test_eight_brackets_by_a_selection(self):
        for openings in (["...T"] * 6, ["...T"] * 5 + ["a"], ["a", "...T", "...T"] * 2):
            opened = "{" + "".join(f"{opening}{{" for opening in openings)
            self.assert_fault(opened + "b{", len(opened) + 1)
            self.assert_fault(opened + "k:b(7) { }", len(opened) + 7)

    def test_selections_behind_one_another_are_not_deep(self):
        self.assert_entries("{" + "a{b{c{d}}}" * 9 + "}", *read_query("{a{b{c{d}}}}") * 9)
        self.assert_entries("{" + "...T{}" * 20 + "}", *[fragment("T")] * 20)
        self.assert_fault_at_mark("{a{b{c{d}}}a{b{c{d^{}}}}}")

    def test_two_bounds_at_the_same_place(self):
        self.assert_fault_at_mark("{...T{...T{...T{a{b{c{d^{}}}}}}}}")
        self.assert_fault_at_mark("{...T{...T{...T{a{b{c{^...T{}}}}}}}}")

    def test_a_fault_ahead_of_what_is_too_deep(self):
        self.assert_fault_at_mark("{a{b{c{^){}}}}}")
        self.assert_fault_at_mark("{a{b{c{d ^7 {}}}}}")


# What stands for a sign in the sentences below, and a text of it.
SIGNS = {"{": "{", "}": "}", "(": "(", ")": ")", ":": ":", "d": "...", "w": "ab", "t": "Tt", "n": "7"}


def sentences(most):
    """All queries with at most so many signs, as words over SIGNS; none of these is too deep."""
    return {"{" + inner + "}" for inner in entry_rows(most - 2)}


def entry_rows(most):
    rows, grown = {""}, {""}
    while grown:
        grown = {row + entry for row in grown for entry in entries_of(most) if len(row + entry) <= most} - rows
        rows |= grown
    return rows


@functools.cache
def entries_of(most):
    """All entries with at most so many signs."""
    below = {"{" + inner + "}" for inner in entry_rows(most - 3)} if most >= 3 else set()
    heads = {key + "w" + number for key in ("", "w:") for number in ("", "(n)")}
    found = {head + tail for head in heads for tail in below | {""}} | {"dt" + query for query in below}
    return {entry for entry in found if len(entry) <= most}


class TestAllShortTexts(ReadingCase):
    """Each row of signs up to a length: the offset is that of the first sign that no query goes on with."""

    LENGTH = 7
    # What is begun within a few signs can be ended within so many.
    LONGEST = 13

    def test_all(self):
        whole = sentences(self.LONGEST)
        begun = {row[:length] for row in whole for length in range(self.LENGTH + 1)}
        rows = [""]
        for row in rows:
            self.assert_row(row, whole, begun)
            if len(row) < self.LENGTH and row in begun:
                rows.extend(row + sign for sign in SIGNS)
        self.assertGreater(len(rows), 500)

    def assert_row(self, row, whole, begun):
        found = None
        try:
            read_query(" ".join(SIGNS[sign] for sign in row))
        except SyntaxFault as fault:
            found = fault.offset
        self.assertEqual(found, self.offset_told(row, whole, begun), row)

    def offset_told(self, row, whole, begun):
        if row in whole:
            return None
        for length in range(1, len(row) + 1):
            if row[:length] not in begun:
                return len("".join(SIGNS[sign] + " " for sign in row[:length - 1]))
        return len(" ".join(SIGNS[sign] for sign in row))


if __name__ == "__main__":
    unittest.main()
