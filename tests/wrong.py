"""Arguments that are wrong: tuples, lists, strings, numbers, booleans and None."""

LAST_DAY = 10 ** 18
NOT_NUMBERS = [None, True, False, "", "1", "a", (), (1,), ("a", "b", 0, 9, 1), [], [1]]
NOT_ADDRESSES = [
    None, True, False, 0, 7, -1, 10 ** 30, (), ("a",), ("a", "b"), [], ["a"], ["a", "b"],
    "", "abcdefghi", "aaaaaaaaaaaaaaaa", "A", "Z", "aB", "Ab", "a1", "1", "a b", " a", "a ", " ",
    "a\n", "\n", "a-b", "`", "{", "a{", "_", ".", "\u00e4", "a\u00df", "\u0430", "\u0661",
]
ADDRESSES = ["a", "m", "z", "az", "zz", "abc", "abcdefgh", "zzzzzzzz"]
NOT_DAYS = NOT_NUMBERS + [-1, -2, -LAST_DAY, LAST_DAY + 1, LAST_DAY + 2, 10 ** 30]
NOT_WAYS = NOT_NUMBERS + [0, -1, 31, 32, 10 ** 18]


def raised(case, error, call, *arguments, **named):
    """The error of exactly this class that a call raises."""
    with case.assertRaises(error) as caught:
        call(*arguments, **named)
    case.assertIs(type(caught.exception), error)
    return caught.exception


def outcome(call):
    """What a call returns, or the class of the error that it raises."""
    try:
        return call()
    except ValueError as error:
        return type(error)
