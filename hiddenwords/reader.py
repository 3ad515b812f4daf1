"""Takes the numbers of calls one behind another."""


class Reader:
    def __init__(self, numbers):
        self.numbers = numbers
        self.place = 0

    def is_done(self):
        return self.place >= len(self.numbers)

    def take(self):
        number = self.numbers[self.place]
        self.place += 1
        return number

    def take_row(self):
        length = self.take()
        row = self.numbers[self.place:self.place + length]
        self.place += length
        return row
