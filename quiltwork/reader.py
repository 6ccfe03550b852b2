"""Reading calls, number by number, from the one list that they stand in."""


class Reader:
    def __init__(self, numbers):
        self.numbers = numbers
        self.at = 0

    def has_more(self):
        return self.at < len(self.numbers)

    def take_number(self):
        number = self.numbers[self.at]
        self.at += 1
        return number

    def take_row(self):
        length = self.take_number()
        row = self.numbers[self.at:self.at + length]
        self.at += length
        return row


def parts_of(row, length):
    return [row[q:q + length] for q in range(0, len(row), length)]
