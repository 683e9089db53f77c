"""Times and lengths as whole numbers of one small unit."""

# So many units are a whole note: 2**17 * 3**6 * 5**3 * 7**3. A 64th with two dots is made of 256th
# parts (2**8), and three tuplets in one another divide by at most 8 * 8 * 8, 9 * 9 * 9, 5 * 5 * 5
# and 7 * 7 * 7: so every length that can be written is a whole number of units.
WHOLE_NOTE = 4096770048000

# By the number of dots, how many quarters of a sign without a dot it lasts.
QUARTERS = (4, 6, 7)


def dotted_length(kind, dots):
    return WHOLE_NOTE // (4 * kind) * QUARTERS[dots]


def parts_length(upper, lower):
    return WHOLE_NOTE // lower * upper


# tuplets are pairs n, m: n in the time of m.
def length_in_tuplets(length, tuplets):
    for tuplet in tuplets:
        length = length * tuplet[1] // tuplet[0]
    return length


# The upper and the lower number, in whole notes and lowest terms.
def fraction(units):
    return lowest_terms(units, WHOLE_NOTE)


def lowest_terms(upper, lower):
    divisor = common_divisor(lower, upper)
    return [upper // divisor, lower // divisor]


def common_divisor(one, other):
    while other != 0:
        left = one % other
        one = other
        other = left
    return one
