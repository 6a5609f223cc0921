"""Histories of versions: ancestors, the base of two versions, whence lines come."""

from linesback.lines import join_lines
from linesback.patches import patch_between, patch_bytes, patched
from linesback.ways import kept_pairs

MOST_VERSIONS = 64
MOST_KEPT = 1048576


# A parent is a version's number, or None. Without a first parent there is no patch, but None.
class Version:
    def __init__(self, first_parent, second_parent, lines, patch):
        self.first_parent = first_parent
        self.second_parent = second_parent
        self.lines = lines
        self.patch = patch
        self.kept = join_lines(lines) if patch is None else patch_bytes(patch)
        # Found when first asked for, and then kept: how texts differ takes the most time of all.
        self.origins = None

    def both_parents(self):
        return [parent for parent in (self.first_parent, self.second_parent) if parent is not None]


# The patch of the lines brings the kept ones' origins where they belong; None stands for a taken line's.
def origins_by_patch(origins, patch):
    return patched(origins, [(first, dropped, [None] * len(taken)) for first, dropped, taken in patch])


class History:
    def __init__(self):
        self.versions = []
        self.kept_size = 0

    def is_full(self):
        return len(self.versions) >= MOST_VERSIONS

    def has_room_for(self, size):
        return self.kept_size + size <= MOST_KEPT

    # Only made, not added: what is kept of it may turn out too much, or not what was read.
    def make_version(self, first_parent, second_parent, lines):
        if first_parent is None:
            return Version(first_parent, second_parent, lines, None)
        patch = patch_between(self.versions[first_parent].lines, lines)
        return Version(first_parent, second_parent, lines, patch)

    def add_version(self, version):
        self.versions.append(version)
        self.kept_size += len(version.kept)

    # Parents come before their versions, so that one walk down meets every ancestor.
    def ancestors_of(self, number):
        found = {number: True}
        for ancestor in range(number, -1, -1):
            if ancestor in found:
                for parent in self.versions[ancestor].both_parents():
                    found[parent] = True
        return found

    # None where they have none.
    def base_of(self, number, other):
        ancestors = self.ancestors_of(number)
        shared = [ancestor for ancestor in self.ancestors_of(other) if ancestor in ancestors]
        return max(shared, default=None)

    # From the first ancestor on, so that a version's parents are gone over before it.
    def whence(self, number):
        for ancestor in sorted(self.ancestors_of(number)):
            version = self.versions[ancestor]
            if version.origins is None:
                version.origins = self.find_origins(version, ancestor)
        return self.versions[number].origins

    def find_origins(self, version, number):
        if version.first_parent is None:
            return [number] * len(version.lines)
        origins = origins_by_patch(self.versions[version.first_parent].origins, version.patch)
        if version.second_parent is not None and None in origins:
            second = self.versions[version.second_parent]
            for i, j in kept_pairs(second.lines, version.lines):
                if origins[j] is None:
                    origins[j] = second.origins[i]
        return [number if origin is None else origin for origin in origins]
