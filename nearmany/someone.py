"""Someone: a name and an address."""


class Someone:
    def __init__(self, name, address):
        self.name = name
        self.address = address
        self.was_silent = False
