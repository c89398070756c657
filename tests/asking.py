"""What the general rules [2] say of each call, checked for any call."""

import copy


def listed(worth):
    """The same value with lists for tuples."""
    return [listed(part) for part in worth] if isinstance(worth, (tuple, list)) else worth


def tupled(worth):
    """The same value with tuples for lists."""
    return tuple(tupled(part) for part in worth) if isinstance(worth, (tuple, list)) else worth


def has_lists(worth):
    """Whether a list stands somewhere in the value."""
    return isinstance(worth, list) or isinstance(worth, tuple) and any(has_lists(part) for part in worth)


def check_answer(case, answer):
    """Several results are a list; but for that one, there are tuples alone."""
    for part in answer if isinstance(answer, list) else [answer]:
        case.assertFalse(has_lists(part), answer)


def check_call(case, ask, named):
    """By position and by names, with lists and with tuples, and again: equal answers, and unchanged arguments.

    A parameter called thing is passed as it is.
    """
    answer = ask(*named.values())
    kept = copy.deepcopy(answer)
    check_answer(case, answer)
    for form in (listed, tupled):
        given = {name: worth if name == "thing" else form(worth) for name, worth in named.items()}
        before = copy.deepcopy(given)
        for again in (ask(*given.values()), ask(**given), ask(**dict(reversed(list(given.items()))))):
            case.assertEqual(again, kept, ask.__name__)
            case.assertIs(type(again), type(kept), ask.__name__)
            check_answer(case, again)
            if isinstance(again, list):
                case.assertIsNot(again, answer)
                again.clear()
        case.assertEqual(given, before, ask.__name__)
    case.assertEqual(answer, kept, ask.__name__)


def check_raises(case, wanted, ask, *given):
    """That the call raises this very error, with lists and with tuples, and that it keeps no lists."""
    for form in (listed, tupled):
        with case.assertRaises(type(wanted)) as caught:
            ask(*[form(worth) for worth in given])
        case.assertEqual(vars(caught.exception), vars(wanted), ask.__name__)
        for kept in vars(caught.exception).values():
            case.assertFalse(has_lists(kept))
