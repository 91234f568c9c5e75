"""Classes of columns: which of them are equal, and which values they may have."""


class Classes:
    """Classes by number, each with a list of the values that it may have, or None.

    Classes that are found to be equal lead to one of them. A value is a class
    with a list of one.
    """

    def __init__(self):
        self.leads = []
        self.lists = []
        self.failed = False

    def copied(self):
        """Return the same once more, of classes that have not failed."""
        other = Classes()
        other.leads = list(self.leads)
        other.lists = list(self.lists)
        return other

    def new_class(self, values=None):
        """Return the number of a new class, with a list of values or None."""
        number = len(self.leads)
        self.leads.append(number)
        self.lists.append(values)
        return number

    def root(self, number):
        """Return the class to which a class leads."""
        while self.leads[number] != number:
            number = self.leads[number]
        return number

    def narrow(self, number, values):
        """Let a class have only values of this ascending tuple."""
        number = self.root(number)
        mine = self.lists[number]
        if mine is not None:
            values = tuple([value for value in mine if value in values])
        self.lists[number] = values
        if not values:
            self.failed = True

    def merge(self, one, other):
        """Make two classes one."""
        one, other = self.root(one), self.root(other)
        if one == other:
            return
        values = self.lists[other]
        self.leads[other] = one
        if values is not None:
            self.narrow(one, values)

    def term(self, number):
        """Return the value of a class, a string, or else the class to which it leads."""
        number = self.root(number)
        values = self.lists[number]
        if values is not None and len(values) == 1:
            return values[0]
        return number

    def class_to_cut(self):
        """Return a class that may have several values, of those with the fewest, or None."""
        found, fewest = None, 0
        for number, values in enumerate(self.lists):
            if values is None or len(values) < 2 or self.leads[number] != number:
                continue
            if found is None or len(values) < fewest:
                found, fewest = number, len(values)
        return found
