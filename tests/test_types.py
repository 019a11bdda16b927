import itertools
import unittest

from rowtypes.types import normal, substitute, symbols, told, variables

N, T = ("number",), ("truth",)
A, B, C, D = [("var", name) for name in "abcd"]


def fun(one, other):
    return ("fun", one, other)


def record(*fields, end=None):
    return ("record", fields, end)


class Normal(unittest.TestCase):
    def test_without_rows(self):
        for given in (N, T, A, fun(A, fun(N, T)), record(), record(end="r")):
            self.assertEqual(normal(given), given)

    def test_fields_by_their_labels(self):
        self.assertEqual(normal(record(("b", N), ("a", T))), record(("a", T), ("b", N)))
        self.assertEqual(normal(record(("b", N), ("aa", T), ("a", A), end="r")),
                         record(("a", A), ("aa", T), ("b", N), end="r"))

    def test_the_same_label_keeps_its_order(self):
        self.assertEqual(normal(record(("x", N), ("x", T))), record(("x", N), ("x", T)))
        self.assertEqual(normal(record(("x", T), ("x", N))), record(("x", T), ("x", N)))
        self.assertEqual(normal(record(("x", T), ("b", A), ("x", N), ("a", B), ("x", A))),
                         record(("a", B), ("b", A), ("x", T), ("x", N), ("x", A)))

    def test_within_types(self):
        inner = record(("b", N), ("a", T))
        wanted = record(("a", T), ("b", N))
        self.assertEqual(normal(fun(inner, fun(A, inner))), fun(wanted, fun(A, wanted)))
        self.assertEqual(normal(record(("y", inner), ("x", fun(inner, N)), end="r")),
                         record(("x", fun(wanted, N)), ("y", wanted), end="r"))

    def test_alike_by_all_orders(self):
        """Rows with x three times: alike exactly if the fields with x are in the same order."""
        fields = [("x", N), ("x", T), ("x", A), ("y", N)]
        for one in itertools.permutations(fields):
            for other in itertools.permutations(fields):
                same = [f for f in one if f[0] == "x"] == [f for f in other if f[0] == "x"]
                self.assertEqual(normal(record(*one)) == normal(record(*other)), same)

    def test_other_ends_are_not_alike(self):
        self.assertNotEqual(normal(record(("x", N), end="r")), normal(record(("x", N))))
        self.assertNotEqual(normal(record(("x", N), end="r")), normal(record(("x", N), end="s")))


class Told(unittest.TestCase):
    def test_one_type(self):
        self.assertEqual(told((fun(C, fun(A, C)),)), (fun(A, fun(B, A)),))
        self.assertEqual(told((N,)), (N,))
        self.assertEqual(told(()), ())
        self.assertEqual(told((record(("x", D), end="z"),)), (record(("x", A), end="b"),))

    def test_in_the_order_of_the_normal_form(self):
        given = fun(C, record(("y", B), ("x", A), end="r"))
        self.assertEqual(told((given,)), (fun(A, record(("x", B), ("y", C), end="d")),))
        self.assertEqual(told((record(("y", A), ("x", B)),)), (record(("x", A), ("y", B)),))

    def test_the_end_of_a_row_behind_its_fields(self):
        inner = record(("y", D), end="s")
        self.assertEqual(told((record(("x", inner), ("z", C), end="r"),)),
                         (record(("x", record(("y", A), end="b")), ("z", C), end="d"),))
        self.assertEqual(told((fun(record(end="r"), fun(record(end="s"), record(end="r"))),)),
                         (fun(record(end="a"), fun(record(end="b"), record(end="a"))),))

    def test_several_types_share_their_names(self):
        self.assertEqual(told((C, fun(B, C), record(("x", A), end="r"), D)),
                         (A, fun(B, A), record(("x", C), end="d"), ("var", "e")))
        self.assertEqual(told((record(end="r"), A, record(("x", N), end="r"))),
                         (record(end="a"), B, record(("x", N), end="a")))

    def test_names_that_are_exchanged(self):
        self.assertEqual(told((fun(B, A),)), (fun(A, B),))
        self.assertEqual(told((fun(record(end="b"), A),)), (fun(record(end="a"), B),))

    def test_more_than_26_variables(self):
        names = ["v" + first + second for first in "abcdefghij" for second in "abcdefghij"]
        given = tuple([("var", name) for name in names])
        wanted = list("abcdefghijklmnopqrstuvwxyz")
        wanted += ["a" + letter for letter in wanted] + ["b" + letter for letter in wanted]
        self.assertEqual([name for _, name in told(given)], (wanted + ["c" + letter for letter in wanted])[:100])
        row = record(*[("l", ("var", name)) for name in names[:26]], end="end")
        self.assertEqual(told((row,))[0][2], "aa")
        self.assertEqual(told((row, C))[1], ("var", "ab"))

    def test_names_of_two_and_of_three_letters(self):
        given = tuple([("var", "t" + str(number)) for number in range(26 + 26 * 26 + 2)])
        names = [name for _, name in told(given)]
        self.assertEqual(names[25:28] + names[51:53] + names[-3:], ["z", "aa", "ab", "az", "ba", "zz", "aaa", "aab"])
        self.assertEqual(len(set(names)), len(names))


class Symbols(unittest.TestCase):
    def test_each_kind(self):
        for given, many in [(N, 1), (T, 1), (A, 1), (fun(A, A), 3), (record(), 1), (record(end="r"), 2),
                            (record(("x", N)), 3), (record(("x", N), end="r"), 4),
                            (record(("x", N), ("x", fun(A, T)), end="r"), 8),
                            (fun(fun(A, B), record(("x", record(end="r")))), 8)]:
            self.assertEqual(symbols(given), many, given)


class Variables(unittest.TestCase):
    def test_by_first_occurrence_as_written(self):
        self.assertEqual(variables(N), ([], []))
        self.assertEqual(variables(fun(B, fun(A, B))), (["b", "a"], []))
        self.assertEqual(variables(record(("y", D), ("x", B), end="r")), (["d", "b"], ["r"]))
        self.assertEqual(variables(record(("x", record(end="s")), end="r")), ([], ["s", "r"]))
        self.assertEqual(variables(fun(record(("x", A), end="r"), fun(record(end="q"), record(end="r")))),
                         (["a"], ["r", "q"]))

    def test_new_lists_each_time(self):
        variables(A)[0].append("z")
        self.assertEqual(variables(A), (["a"], []))


class Substitute(unittest.TestCase):
    def test_variables_of_types(self):
        self.assertEqual(substitute(fun(A, fun(B, A)), {"a": N}), fun(N, fun(B, N)))
        self.assertEqual(substitute(A, {"a": record(("x", A))}), record(("x", A)))
        self.assertEqual(substitute(fun(A, N), {}), fun(A, N))
        self.assertEqual(substitute(fun(A, N), {"b": T}), fun(A, N))

    def test_rows_behind_the_fields(self):
        given = record(("z", N), ("x", T), end="r")
        self.assertEqual(substitute(given, {"r": record(("a", T), ("x", N), end="s")}),
                         record(("z", N), ("x", T), ("a", T), ("x", N), end="s"))
        self.assertEqual(substitute(given, {"r": record()}), record(("z", N), ("x", T)))
        self.assertEqual(substitute(given, {"r": record(end="q")}), record(("z", N), ("x", T), end="q"))
        self.assertEqual(substitute(record(end="r"), {"r": record(("x", N))}), record(("x", N)))

    def test_without_an_image(self):
        given = fun(record(("x", A), end="r"), record(end="s"))
        self.assertEqual(substitute(given, {"s": record(("y", N), end="r")}),
                         fun(record(("x", A), end="r"), record(("y", N), end="r")))
        self.assertEqual(substitute(record(("a", N)), {"a": T}), record(("a", N)))

    def test_once_and_together(self):
        self.assertEqual(substitute(fun(A, B), {"a": B, "b": A}), fun(B, A))
        self.assertEqual(substitute(A, {"a": fun(A, A)}), fun(A, A))
        self.assertEqual(substitute(record(("x", A), end="r"), {"a": record(end="r"), "r": record(("y", A), end="r")}),
                         record(("x", record(end="r")), ("y", A), end="r"))
        self.assertEqual(substitute(fun(record(end="r"), record(end="s")), {"r": record(end="s"), "s": record(end="r")}),
                         fun(record(end="s"), record(end="r")))

    def test_fields_stay_as_they_are(self):
        given = record(("z", A), ("x", record(("b", N), ("a", A))))
        self.assertEqual(substitute(given, {"a": T}), record(("z", T), ("x", record(("b", N), ("a", T)))))

    def test_the_dict_is_not_changed(self):
        images = {"a": B, "b": fun(A, A), "r": record(("x", A), end="r"), "q": N}
        copy = dict(images)
        substitute(fun(A, record(("y", B), end="r")), images)
        self.assertEqual(images, copy)
        self.assertEqual(list(images), list(copy))


class Deep(unittest.TestCase):
    def test_types_of_many_levels(self):
        given = A
        for _ in range(1500):
            given = fun(N, record(("x", given), end="r"))
        self.assertEqual(symbols(given), 1500 * 5 + 1)
        self.assertEqual(variables(normal(given)), (["a"], ["r"]))
        self.assertEqual(variables(told((substitute(given, {"a": B}),))[0]), (["a"], ["b"]))


if __name__ == "__main__":
    unittest.main()
