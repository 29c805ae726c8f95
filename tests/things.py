"""Things that are handed in wrongly, for several tests."""

# Each is no whole number.
NO_WHOLE = (None, True, False, "", "1", b"1", [], [1], (), (1,), {}, {1: 1}, set(), object(), len, int)

# Each is no list.
NO_LIST = (None, True, False, 0, 1, "", "12", b"12", (), (1, 2, 3), {}, {0: 1}, {1, 2}, frozenset(), range(3),
           iter([1, 2, 3]), object(), list)

# Each is no few: no whole number, or one beyond the bounds.
NO_FEW = NO_WHOLE + (-1, 6, -1000000, 10 ** 5000)

# Each is no number: no whole number, or one beyond the bounds.
NO_NUMBER = NO_WHOLE + (-1000001, 1000001, 10 ** 5000, -10 ** 5000)

# Each is no dict.
NO_DICT = (None, True, False, 0, 1, "", "ab", b"", [], [((1, 0), 5)], (), ((1, 0), 5), set(), {(1, 0)}, frozenset(),
           object(), dict)

# Each is neither a list nor a tuple.
NO_ROW = (None, True, False, 0, 1, "", "0", b"", {}, {0: 1}, {0}, frozenset(), range(1), iter([0]), object(), list)

# Each is no beat: no whole number, or one beyond the bounds.
NO_BEAT = NO_WHOLE + (-1, 100001, 10 ** 5000, -10 ** 5000)
