"""How the tests ask for a refusal."""

from streetrounds.errors import StreetError


def refusal(case, kind, asked, *things, **named):
    """Tell the values of the refusal, after seeing that it's of this very class."""
    with case.assertRaises(StreetError) as caught:
        asked(*things, **named)
    error = caught.exception
    case.assertIs(type(error), kind)
    case.assertIsInstance(error, ValueError)
    values = vars(error)
    for value in values.values():
        case.assertIs(type(value), int)
    return values
