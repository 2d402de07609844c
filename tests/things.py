"""Things of anything, for the tests: none of them is a whole number, a span or a book."""


def deep(levels):
    """Tuples within one another, the innermost a span."""
    thing = (0, 7, 1)
    for _ in range(levels):
        thing = (thing,)
    return thing


# Made anew by each call, so that no test can spoil them for another one.
def odd_things():
    return [
        None, True, False, "", "0-7!1", "a" * 400, "\t\n ~", [], (), {},
        [0, 7, 1], [(0, 7, 1)], [[0, 7, 1]], ([0, 7, 1],), {0: (0, 7, 1)}, {"begin": 0, "until": 7, "end": 1},
        ("0", "7", "1"), (("0", "7", "1"),), (None, None, None), ((None, 7, 1),), "abc", ("abc",), ((),), ({},),
        deep(2), deep(7), [[[[[[[[]]]]]]]], {"a": {"b": {"c": {"d": [1, (2, {"e": None})]}}}},
        tuple(range(2000)), list(range(2000)),
    ]
