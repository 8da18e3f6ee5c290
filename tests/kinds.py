"""Values of many kinds, for all that takes values of any kind."""


class Equal:
    """Something of another kind that claims to be equal to everything."""

    def __eq__(self, other):
        return True

    __hash__ = object.__hash__


OF_OTHER_KINDS = [None, True, False, 0, 1, 1.0, "", "al", b"al", [], ["al"], (), ("al",), {}, {"al": 1}, {"al"},
                  object(), int, len]
