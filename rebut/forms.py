"""What any value is; the functions of this file raise no errors, whatever they are asked about."""


def is_integer(value):
    """Whether any value is an integer; True and False are none."""
    return type(value) == int


def is_tuple(value):
    """Whether any value is a tuple."""
    return type(value) == tuple


def is_text(value):
    """Whether any value is a text."""
    return type(value) == str


def is_variable(n, value):
    """Whether any value is one of the variables from 1 to n."""
    return is_integer(value) and 1 <= value <= n


def is_index(value, length):
    """Whether any value is an index of a row of a length."""
    return is_integer(value) and 0 <= value < length


def is_tuple_of(value, takes):
    """Whether any value is a tuple of items that a function takes, which is called with any values, too."""
    if not is_tuple(value):
        return False
    for part in value:
        if not takes(part):
            return False
    return True


def has_form(value, word, length):
    """Whether any value is a tuple of a length with a word in front."""
    return is_tuple(value) and len(value) == length and is_text(value[0]) and value[0] == word
