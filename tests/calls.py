"""A check of how a function judges what it is passed."""

import copy


def check_calls(test, function, good, bad):
    """Hold a function against its errors.

    good is a dict from its parameters, in order, to values that are right; bad a list of triples
    (parameter, value, error) in which, apart from the others, the value brings the error. Where
    values of two parameters are bad, that of the first one counts.
    """
    before = copy.deepcopy(good)
    by_name = function(**good)
    test.assertEqual(function(*good.values()), by_name)
    test.assertEqual(good, before)
    if isinstance(by_name, (list, dict)):
        test.assertIsNot(function(**good), by_name)
    order = list(good)
    for at, value, error in bad:
        with test.assertRaises(error, msg=(function.__name__, at, value)) as caught:
            function(**{**good, at: value})
        test.assertIs(caught.exception.__class__, error)
        for later, other, _ in bad:
            if order.index(later) > order.index(at):
                with test.assertRaises(error, msg=(function.__name__, at, value, later, other)) as caught:
                    function(**{**good, at: value, later: other})
                test.assertIs(caught.exception.__class__, error)
