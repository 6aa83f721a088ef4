"""What the tests compare with: all value types, and the order of conversions worked out by the words of point 5."""
from itertools import product

RIGHTS = ("rw", "r", "w", "-")


def value_types(length):
    return list(product(RIGHTS, repeat=length))


def letters_of(right):
    return {letter for letter in right if letter != "-"}


def goes(one, two):
    """Point 5, clause by clause."""
    if one == () and two == ():
        return True
    demands = [letters_of(two[0]) <= letters_of(one[0])]
    if "r" in letters_of(two[0]):
        demands.append(goes(one[1:], two[1:]))
    if "w" in letters_of(two[0]):
        demands.append(goes(two[1:], one[1:]))
    return all(demands)


def all_bars(one, two):
    """Point 7: each list of letters that can be followed, with each letter that fails there."""
    bars = []
    for many in range(len(one)):
        for letters in product("rw", repeat=many):
            source, goal = one, two
            for letter in letters:
                if letter not in letters_of(goal[0]):
                    break
                if letter == "r":
                    source, goal = source[1:], goal[1:]
                else:
                    source, goal = goal[1:], source[1:]
            else:
                bars.extend((list(letters), letter)
                            for letter in sorted(letters_of(goal[0]) - letters_of(source[0])))
    return bars


def flattened(one):
    """The plain form, sign by sign."""
    out = []
    for right in one:
        out.append("-" if "-" in out else right)
    return tuple(out)


class Order:
    """All value types of a length, with the conversions among them as sets."""

    def __init__(self, length):
        self.all = value_types(length)
        self.up = {one: {two for two in self.all if goes(one, two)} for one in self.all}
        self.down = {two: {one for one in self.all if two in self.up[one]} for two in self.all}

    def joins(self, one, two):
        common = self.up[one] & self.up[two]
        least = [top for top in common if common & self.down[top] <= self.up[top]]
        return sorted({flattened(top) for top in least})

    def meets(self, one, two):
        common = self.down[one] & self.down[two]
        greatest = [low for low in common if common & self.up[low] <= self.down[low]]
        return sorted({flattened(low) for low in greatest})
