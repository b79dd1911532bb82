"""Groups of numbers that are united step by step."""


class Groups:
    """Disjoint groups of the numbers below a count. In the beginning each number is alone.

    The least number of a group stands for the group.
    """

    def __init__(self, count):
        self._parents = list(range(count))
        self._masks = [1 << number for number in range(count)]

    def least(self, number):
        """Returns the least number of the group of a number."""
        parents = self._parents
        while parents[number] != number:
            # Shorter ways keep later calls quick.
            parents[number] = parents[parents[number]]
            number = parents[number]
        return number

    def mask(self, number):
        """Returns the mask of the group of a number."""
        return self._masks[self.least(number)]

    def unite(self, a, b):
        """Makes the groups of two numbers one."""
        first = min(self.least(a), self.least(b))
        second = max(self.least(a), self.least(b))
        if first != second:
            self._parents[second] = first
            self._masks[first] |= self._masks[second]

    def leaders(self):
        """Returns the ascending list of the least numbers of all groups."""
        return [number for number, parent in enumerate(self._parents) if number == parent]
