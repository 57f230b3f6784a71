"""Reads the numbers of calls that stand one behind another."""


class Reader:
    def __init__(self, numbers):
        self.numbers = numbers
        self.position = 0

    def has_more(self):
        return self.position < len(self.numbers)

    def read_number(self):
        number = self.numbers[self.position]
        self.position += 1
        return number

    def read_identity(self):
        t = self.read_number()
        return (t, self.read_number())

    def read_row(self):
        start = self.position + 1
        self.position = start + self.numbers[self.position]
        return self.numbers[start:self.position]
