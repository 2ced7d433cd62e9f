"""The items of lists found the long way: by the reference, with all that the tests can say."""

from tests.reference import stream, text


class ListTalk:
    """Answers for a list of so many items, and tests as a function tells."""

    def __init__(self, length, says):
        self.length = length
        self.says = says
        self.asked = {}

    def answer(self, kind, *rest):
        if kind == "ask":
            self.asked[rest] = self.asked.get(rest, 0) + 1
            return "item" if self.asked[rest] <= self.length else "none"
        return "done" if kind == "call" else self.says(rest)


def things_given(program, length, says):
    return [text(thing) for thing in stream(ListTalk(length, says), program)]


def reference_gives(program, length, no):
    return things_given(program, length, lambda test: "no" if test in no else "yes")


def reference_parts(first, second, length):
    """Whether two programs give other lists of so many items, for some of what the tests can say."""
    todo = [{}]
    while todo:
        known = todo.pop()
        told = dict(known)
        fresh = []

        def says(test):
            if test not in told:
                told[test] = "yes"
                fresh.append(test)
            return told[test]

        if things_given(first, length, says) != things_given(second, length, says):
            return True
        for at, test in enumerate(fresh):
            todo.append({**known, **dict.fromkeys(fresh[:at], "yes"), test: "no"})
    return False


def reference_length(first, second, most):
    """The least length up to one at which two programs give other lists, or None."""
    for length in range(most + 1):
        if reference_parts(first, second, length):
            return length
    return None
