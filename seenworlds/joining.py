"""Where a part holds, told by where the parts hold that it is made of.

Where something holds is a whole number with a bit for each world, or for each kind of world.
"""

from seenworlds.reading import ALWAYS, AND, NEVER, NOT, OR, THEN


# For the parts that need no other world: not for letters, [] formulas and <> formulas.
def joined(part, held, every):
    sign = part[0]
    if sign == NEVER:
        return 0
    if sign == ALWAYS:
        return every
    left = held[part[1]]
    if sign == NOT:
        return every ^ left
    right = held[part[2]]
    if sign == AND:
        return left & right
    if sign == OR:
        return left | right
    if sign == THEN:
        return (every ^ left) | right
    return every ^ left ^ right
