"""Taking the items of a text, one behind another."""

from lanecross.errors import BadText
from lanecross.numerals import integer_in, number_in
from lanecross.reckon import is_smaller, raw


class Reader:
    """The items of a text. What cannot stand raises BadText with its index."""

    def __init__(self, text):
        if not isinstance(text, str):
            raise BadText(0, 0)
        self.words = text.split(" ")
        self.at = 0

    def is_done(self):
        """Whether all items are taken."""
        return self.at == len(self.words)

    def ahead(self):
        """The next item; behind the last one the empty item, which can stand nowhere."""
        if self.is_done():
            return ""
        return self.words[self.at]

    def refuse_last(self):
        """The item that was taken last cannot stand."""
        raise BadText(0, self.at - 1)

    def one_of(self, choices):
        """Takes an item that is one of these words."""
        found = self.ahead()
        if found not in choices:
            raise BadText(0, self.at)
        self.at += 1
        return found

    def number(self):
        """Takes the item of a number."""
        found = number_in(self.ahead())
        if found is None:
            raise BadText(0, self.at)
        self.at += 1
        return found

    def number_above(self, bound):
        """Takes a number that is greater than another one."""
        found = self.number()
        if not is_smaller(raw(bound), raw(found)):
            self.refuse_last()
        return found

    def number_from(self, bound):
        """Takes a number that is not less than another one."""
        found = self.number()
        if is_smaller(raw(found), raw(bound)):
            self.refuse_last()
        return found

    def integer_from(self, bound):
        """Takes an integer from bound on."""
        found = integer_in(self.ahead())
        if found is None or found < bound:
            raise BadText(0, self.at)
        self.at += 1
        return found

    def integer(self, bound, many):
        """Takes an integer from bound to below many."""
        found = self.integer_from(bound)
        if found >= many:
            self.refuse_last()
        return found

    def close(self):
        """Nothing stands behind."""
        if not self.is_done():
            raise BadText(0, self.at)
