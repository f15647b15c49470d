"""Reads calls that are written one behind another in one list."""


class Reader:
    def __init__(self, numbers):
        self.numbers = numbers
        self.passed = 0

    def has_more(self):
        return self.passed < len(self.numbers)

    def number(self):
        self.passed += 1
        return self.numbers[self.passed - 1]

    def row(self):
        size = self.number()
        self.passed += size
        return self.numbers[self.passed - size:self.passed]
