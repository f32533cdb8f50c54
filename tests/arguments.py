"""Wrong arguments, one and several at once: the first error from left to right is raised."""

from itertools import product

from heardonce.errors import InvalidOctets
from tests.values import ODD_VALUES


def is_among(value, values):
    return any(isinstance(other, value.__class__) and other == value for other in values)


class ArgumentChecks:
    """For test cases: tells that a function raises the error of its first wrong argument."""

    def check_arguments(self, function, right, errors, wrong=None, fine=()):
        """Check all arguments of a function.

        `errors` are the errors of the arguments, None for one of any value; `wrong` are more wrong values for each,
        `fine` are those of the odd values that are right ones here.
        """
        wrong = wrong or [()] * len(right)
        function(*right)
        places = [at for at, error in enumerate(errors) if error is not None]
        for at in places:
            for value in tuple(wrong[at]) + tuple(odd for odd in ODD_VALUES if not is_among(odd, fine)):
                arguments = right[:at] + (value,) + right[at + 1:]
                self.check_error(function, arguments, errors[at])
        for picked in product((False, True), repeat=len(places)):
            if any(picked):
                arguments = list(right)
                for at, is_wrong in zip(places, picked):
                    if is_wrong:
                        arguments[at] = [0]
                self.check_error(function, tuple(arguments), errors[places[picked.index(True)]])

    def check_error(self, function, arguments, error):
        with self.assertRaises(error, msg=f"{function.__name__}{arguments!r}"[:300]) as caught:
            function(*arguments)
        self.assertIs(type(caught.exception), error)
        if error is InvalidOctets:
            self.assertEqual(caught.exception.at, 0)
