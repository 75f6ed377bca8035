"""Whole numbers that are read one behind another."""


class NotWellMade(Exception):
    """What was told is not of the form that it must have."""


class Reader:
    """It only reads what it is given: the list is left as it is."""

    def __init__(self, told):
        self.told = told
        self.position = 0

    def is_at_end(self):
        return self.position == len(self.told)

    def expect_end(self):
        if not self.is_at_end():
            raise NotWellMade("a number too many")

    def take(self):
        if self.is_at_end():
            raise NotWellMade("a number too few")
        number = self.told[self.position]
        self.position += 1
        return number

    def take_within(self, least, most):
        number = self.take()
        if number < least or number > most:
            raise NotWellMade("a number out of its range")
        return number

    def take_many(self, many):
        if many > len(self.told) - self.position:
            raise NotWellMade("numbers too few")
        start = self.position
        self.position += many
        return self.taken_since(start)

    def take_row(self):
        """The numbers of a row, which has before it how many they are."""
        return self.take_many(self.take())

    def take_row_within(self, shortest, longest):
        return self.take_many(self.take_within(shortest, longest))

    def taken_since(self, start):
        return self.told[start:self.position]
