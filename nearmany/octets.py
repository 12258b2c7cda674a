"""Whole numbers as bytes, the highest byte first."""


def number_of(octets):
    number = 0
    for octet in octets:
        number = number * 256 + octet
    return number


def octets_of(number, how_many):
    octets = []
    rest = number
    while len(octets) < how_many:
        octets.append(rest % 256)
        rest = rest // 256
    octets.reverse()
    return octets
