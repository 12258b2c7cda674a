"""Chance: numbers of 64 bits that follow from a seed alone."""

STATES = 0x10000000000000000
STEP = 0x9E3779B97F4A7C15
FIRST_FACTOR = 0xBF58476D1CE4E5B9
SECOND_FACTOR = 0x94D049BB133111EB


class Chance:
    def __init__(self, seed):
        self.state = seed

    def draw(self):
        self.state = (self.state + STEP) % STATES
        z = self.state
        y = ((z ^ (z >> 30)) * FIRST_FACTOR) % STATES
        x = ((y ^ (y >> 27)) * SECOND_FACTOR) % STATES
        return x ^ (x >> 31)
