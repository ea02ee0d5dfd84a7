"""What several tests use: that a refusal is just the one told, that a list is the asker's own, births."""

from wantway import errors


def assert_only(test, error, kind):
    """An error is a WantError and a ValueError, of this kind and none of the others."""
    kinds = [thing for thing in vars(errors).values() if isinstance(thing, type)]
    test.assertIsInstance(error, ValueError)
    test.assertEqual([other for other in kinds if isinstance(error, other)], [errors.WantError, kind])


def assert_own_list(test, ask):
    """What is told is a new list each time, and what is done to it changes nothing."""
    first = ask()
    kept = list(first)
    test.assertIs(type(first), list)
    first.append("more")
    first.insert(0, "other")
    test.assertEqual(ask(), kept)
    test.assertIsNot(ask(), ask())


def born(*places):
    """The birth of a cell made at the last place in the going of the one made at the place ahead, and so on."""
    birth = ()
    for place in places:
        birth = (birth, place)
    return birth
