"""How tests see that a call raises the error that the document names, with its fields, and changes nothing."""

import copy


def check_raises(case, error, fields, function, *arguments):
    """Fails unless the call raises exactly this error with exactly these fields, and leaves its arguments."""
    kept = copy.deepcopy(arguments)
    with case.subTest(function=function.__name__, arguments=arguments):
        with case.assertRaises(error) as caught:
            function(*arguments)
        case.assertIs(type(caught.exception), error)
        case.assertEqual(vars(caught.exception), fields)
        for name, value in fields.items():
            case.assertIs(type(getattr(caught.exception, name)), type(value))
        case.assertEqual(arguments, kept)
