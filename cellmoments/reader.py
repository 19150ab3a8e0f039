"""Takes whole numbers and lists, one behind another, from the one list in which calls are laid out."""


class Reader:
    def __init__(self, numbers):
        self.numbers = numbers
        self.place = 0

    def has_more(self):
        return self.place < len(self.numbers)

    def take(self):
        number = self.numbers[self.place]
        self.place = self.place + 1
        return number

    def take_list(self):
        length = self.take()
        begin = self.place
        self.place = begin + length
        return self.numbers[begin:self.place]
