"""Numbers that look picked at will but are the same each time, on every Python."""


class Picks:
    def __init__(self, seed):
        self.state = seed

    def below(self, limit):
        self.state = (self.state * 6364136223846793005 + 1442695040888963407) % 2 ** 64
        return (self.state >> 33) % limit

    def one_of(self, choices):
        return choices[self.below(len(choices))]
