"""Whom one knows, in 160 buckets by nearness."""

from nearmany.someone import Someone

BUCKETS = 160
MOST_KNOWN = 8
MOST_WAITING = 8
MOST_NEAREST = 8


class Bucket:
    def __init__(self):
        self.known = []
        self.waiting = []

    def known_by(self, name):
        for someone in self.known:
            if someone.name == name:
                return someone
        return None

    def heard(self, name, address):
        someone = self.known_by(name)
        if someone is None:
            self.heard_unknown(name, address)
        elif someone.address == address:
            self.known.remove(someone)
            self.known.append(someone)
            someone.was_silent = False

    def heard_unknown(self, name, address):
        # By name alone, so that no name can come to be known twice in a bucket.
        self.waiting = [other for other in self.waiting if other.name != name]
        if len(self.known) < MOST_KNOWN:
            self.known.append(Someone(name, address))
            return
        self.waiting.append(Someone(name, address))
        if len(self.waiting) > MOST_WAITING:
            self.waiting.pop(0)

    def silent(self, name, address):
        someone = self.known_by(name)
        if someone is None or someone.address != address:
            return
        if not someone.was_silent:
            someone.was_silent = True
            return
        self.known.remove(someone)
        if len(self.waiting) > 0:
            self.known.append(self.waiting.pop())


class Buckets:
    def __init__(self, own_name):
        self.own_name = own_name
        self.rows = [Bucket() for place in range(BUCKETS)]

    # Only for names other than one's own: that differs from itself in no bit and has no bucket.
    def bucket_of(self, name):
        return self.rows[(name ^ self.own_name).bit_length() - 1]

    def known_by(self, name):
        if name == self.own_name:
            return None
        return self.bucket_of(name).known_by(name)

    def heard(self, name, address):
        if name != self.own_name:
            self.bucket_of(name).heard(name, address)

    def silent(self, name, address):
        if name != self.own_name:
            self.bucket_of(name).silent(name, address)

    def nearest(self, name):
        everyone = []
        for bucket in self.rows:
            everyone.extend(bucket.known)
        return sorted(everyone, key=lambda someone: someone.name ^ name)[:MOST_NEAREST]
