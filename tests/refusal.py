"""How the tests ask for a refusal."""


def refused(test, kind, ask, *things, **named):
    """Fail unless ask refuses these things by an error of just this class."""
    told = ()
    try:
        told = (ask(*things, **named),)
    except Exception as error:
        test.assertIs(type(error), kind, (ask.__name__, things, named, error))
    test.assertEqual(told, (), (ask.__name__, things, named))
