"""The shelf: values that are kept for an hour."""

MOST_KEPT = 128
KEPT_FOR = 3600000


class Shelf:
    def __init__(self):
        self.kept = {}

    def keep(self, name, content, now):
        if name in self.kept or len(self.kept) < MOST_KEPT:
            self.kept[name] = (content, now + KEPT_FOR)

    # None where no value of that name is kept: one that is kept may be empty.
    def content_of(self, name):
        if name not in self.kept:
            return None
        return self.kept[name][0]

    def drop_old(self, now):
        for name in list(self.kept):
            if self.kept[name][1] <= now:
                self.kept.pop(name)
