"""What several tests share."""

BIG = 10 ** 59

# Values of each kind that a function may be passed where it takes any value.
ODD_VALUES = (
    None, True, False, 0, 1, -1, 7, BIG, -BIG, "", "n", "pay", "program", "two\nlines", "~" * 3500,
    [], {}, [()], {"pay": 1}, {0: ("stop",)}, [("stop",)], [["pay", 1]], {"a": {"b": [{}]}},
    "stop", ["stop"],
)


def nest(levels, inner):
    """The block inner within so many "repeat" statements."""
    for _ in range(levels):
        inner = (("repeat", 1, inner),)
    return inner


def deep_list(levels):
    """A list within a list, so many levels deep."""
    value = []
    for _ in range(levels - 1):
        value = [value]
    return value


def deep_tuple(levels):
    """A tuple within a tuple, so many levels deep."""
    value = ()
    for _ in range(levels - 1):
        value = (value,)
    return value


def sort_of(value):
    """The value with the exact classes of all its parts, so that 1 and True, or () and [], are unlike."""
    if isinstance(value, (tuple, list)):
        return (type(value), [sort_of(part) for part in value])
    if isinstance(value, dict):
        return (type(value), [(sort_of(key), sort_of(part)) for key, part in value.items()])
    return (type(value), value)


def in_order(count):
    """The first so many integers in the order of inputs."""
    numbers = [0]
    while len(numbers) < count:
        size = (len(numbers) + 1) // 2
        numbers.extend([size, -size])
    return numbers[:count]


def place_of(number):
    """How many integers come ahead of the number in the order of inputs."""
    return 2 * abs(number) - (number > 0)


# Values that are no tuples of integers.
NO_NUMBERS = (
    *[value for value in ODD_VALUES if not isinstance(value, tuple)], [0], [1, 2], {0: 1}, "0", deep_list(20),
    (True,), (False,), (1, True), (0, False), (None,), ("0",), ((0,),), ([0],), (0, (1,)), ({},), deep_tuple(20),
    ((("pay", "n"),),), (("pay", "n"),), ((0, 1, None, None, (0,)),), (0, None))
